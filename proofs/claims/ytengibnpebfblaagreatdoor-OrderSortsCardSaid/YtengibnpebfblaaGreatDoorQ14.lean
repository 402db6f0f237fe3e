import Derived.Test.YtengibnpebfblaaGreatDoorQ0
import Derived.Test.YtengibnpebfblaaGreatDoorQ13
set_option maxRecDepth 1000000
set_option maxHeartbeats 8000000
set_option linter.unusedSimpArgs false
namespace Go.Proofs.YtengibnpebfblaaGreatDoor
open Go.RowKit Go.Shelf
attribute [local go_sem] fK
abbrev aLx (x:Nat×Pl):Array Value:=#[Value.int .i64 (x.1:Int),Value.agg (plc x.2)]
def aCf (n₀:Nat) (W:World) (v:Value) (xs:List Pl):Prop:=
 (xs=[]/\v=.slice none 0 0)\/(0<xs.length/\∃(g c:Nat),v=.slice (some ⟨g,0,none⟩) xs.length c/\g<n₀/\∀k (hk:k<xs.length),W.rangeAt g (k*2) (nH xs[k]))
theorem aKF {S:Nat->Prop} {n₀:Nat} {W:World} {v:Value} {xs:List Pl} {n:Nat} (h:dP S W 186 2 v (en nH xs) n) (hS:∀g,S g->g<n₀):aCf n₀ W v xs:=by
 have hl:=h.1;rw[oA oW]at hl;rcases gP n with h0|h0
 ·obtain⟨_,⟨_,rfl⟩|⟨h1,_⟩⟩:=h
  ·exact .inl ⟨aT uAu,rfl⟩
  ·omega
 ·have hn:n=xs.length:=by omega
  subst hn;obtain⟨g,c,_,_,h1,_,h2,_⟩:=h.pos h0;refine .inr ⟨h0,g,c,h1,hS g h2,fun k hk=> ?_⟩;obtain⟨g',c',e,_,_,_,_,hr⟩:=aFk h (List.getElem?_eq_getElem hk);rw[h1]at e;simp only[dR,cC,nB,aAz,aAA]at e;rw[e.1];exact hr
theorem aCf.below {n₀:Nat} {A B:World} {v:Value} {xs:List Pl} (h:Below n₀ A B):aCf n₀ A v xs->aCf n₀ B v xs
 | .inl e=>.inl e
 | .inr ⟨h0,g,c,e,hg,hc⟩=>.inr ⟨h0,g,c,e,hg,fun k hk j u hu=>(h.cell (p:=⟨g,k*2+j,none⟩) hg).trans (hc k hk j u hu)⟩
theorem aBq (n:Nat) (hn:1<=n) (l Bs n₀:Nat) (R:Rg Pl) (g cp:Nat) (hgn:g<n₀) (htn:1<n₀) (J Jx:List (Nat×Pl)->World->Prop)
  (hJ:∀s A B,J s A->Below A.heap.size A B->J s B)
  (hY:∀pre x W,J pre W->pre.length<(iR R).length->x∈iR R->YieldAt Fence.wide (n-1) Tryz.prog l (aLx x) W fun e W'=>
   (e=.returned (.bool true)/\J (pre++[x]) W'/\Below n₀ W W')\/(e=.returned (.bool false)/\Jx (pre++[x]) W'))
  (W:World) (hnW:n₀<=W.heap.size) (hB0:W.cell? ⟨Bs,0,none⟩=some (.int .u32 (eS R 32:Nat))) (hB1:W.cell? ⟨Bs,1,none⟩=some (.slice (some ⟨g,0,none⟩) (nG R).length cp))
  (hL:∀k (hk:k<(nG R).length),W.rangeAt g (k*2) (nH (nG R)[k])) (hT:fW W) (h0:J [] W):
  CallsIn Fence.wide n Tryz.prog 152 #[.func (.yield l) #[] #[],.pointer (some ⟨Bs,0,none⟩)] W fun e W'=>(∃v,e=.returned v)/\
   ((∃ys,ys=iR R/\J ys W')\/(∃pre,(∃k,k<=(iR R).length/\pre=(iR R).take k)/\Jx pre W')):=by
 have HJA:=iH hJ;clear hJ;refine iF Tryz.func152 rfl trivial ?_ rfl;simp only[Tryz.ntmps152,cA,aL,bG,Nat.reduceAdd,Nat.reduceSub,bY,bW,cM,cD,bD,bC];gi_wp2
 have HLEN:=iH (show(nG R).length=(iR R).length by rw[nF,qP]);have hl32:((nG R).length:Int)<=32:=by have:=zH R 32;rw[<-nF]at this;omega
 have HNW:=iH hnW;clear hnW;gi_loopw [3,11] (fun left i wr=>∃k p:Nat,k<=(nG R).length/\fQ R p=k/\i=.int .i64 k/\left=.int .u32 (nR (eS R 32) p:Nat)/\J ((iR R).take k) wr/\Below n₀ W wr) (fun _ i _=>(nG R).length-(intOf i).toNat)
 case atStart=>exact⟨0,0,aQ _,rfl,rfl,by rw[aJ5],h0,aY _ _⟩
 case round=>
  obtain⟨k,p,hk,hp,rfl,rfl,hJs,hnx⟩:=hrel;by_cases hlt:k<(nG R).length
  ·obtain⟨q,x,hz0,hctz,hpq,hq,hx,hcq,hcq1,hleft⟩:=aJ6 R (p:=p) (by rw[hp,<-nF];exact hlt)
   have HRG:Hid (wr.rangeAt g (k*2) (nH (nG R)[k])):=fun j u hu=>(hnx.cell (p:=⟨g,k*2+j,none⟩) hgn).trans (hL k hlt j u hu)
   have hal:=aI6 R hq hx;rw[hcq,hp]at hal;have hli:=aHK R hq hx;rw[hcq,hp,List.getElem?_eq_getElem hlt]at hli;obtain hli:=aN hli;rw[hli]at HRG;have htk:(iR R).take k++[(q,x)]=(iR R).take (k+1):=by
    obtain⟨h1,h2⟩:=List.getElem?_eq_some_iff.1 hal;rw[aS h1,h2]
   have HY:Hid (∀V,J ((iR R).take k) V->YieldAt Fence.wide (n-1) Tryz.prog l (aLx (q,x)) V fun e W'=>
     (e=.returned (.bool true)/\J ((iR R).take k++[(q,x)]) W'/\Below n₀ V W')\/(e=.returned (.bool false)/\Jx ((iR R).take k++[(q,x)]) W')):=fun V hV=>hY _ (q,x) V hV (by rw[aV,<-HLEN.out];omega) (fY hal)
   have hLlt:nR (eS R 32) p<4294967296:=aHL p (sS R 32);have HT3:Hid (∀V,Below n₀ W V->fW V):=fun V hV j hj=>(hV.cell (p:=⟨1,j,none⟩) htn).trans (hT j hj)
   have HZ:Hid (∀V,fW V->Calls Tryz.prog 153 #[.int .u32 (nR (eS R 32) p:Nat)] V fun e w'=>e=.returned (.int .i64 (q:Nat))/\w'=V):=fun V hV=>by
    have h:=aKc (nR (eS R 32) p) hLlt hz0 V hV;rw[hctz]at h;exact h
   obtain⟨L,hLe⟩:∃L,L=nR (eS R 32) p:=⟨_,rfl⟩
   obtain⟨L',hLe'⟩:∃L',L'=nR (eS R 32) (q+1):=⟨_,rfl⟩
   rw[<-hLe,<-hLe']at hleft;rw[<-hLe]at hz0 hLlt HZ ⊢;obtain⟨M,hM⟩:∃M,M=L-1:=⟨_,rfl⟩
   rw[<-hM]at hleft;have e1:(L:Int)-1=(M:Int):=by omega
   have e2:bits .and .u32 (L:Int) (M:Int)=(L':Int):=by rw[<-hleft];exact aEx L M hLlt
   have hL1:1<=(L:Int):=by omega
   have HLE':=iH hLe';have HTK:=iH htk;have HCQ:=iH (hcq1.trans (by rw[hp]));have HJS:=iH hJs;have HNX:=iH hnx;have HLT:=iH hlt;clear hal hli htk hleft hM hctz hLe hLe' hcq hcq1 hJs hnx hL hY hT h0;gi_wp2_with (first
    |(refine aBC rfl 186 _ rfl g (k*2) rfl (nH x) _ HRG.out Tryz.underlying186 rfl dJ ?_)
    |(refine aDP rfl 186 _ _ rfl wr.heap.size (plc x) rfl rfl 186 (plc (none,none)) (aF _ _) dJ rfl (gM x) ?_;intro w5 h5 k5;have HB5:Hid (Below wr.heap.size wr w5):=(Below.newly' _ _).trans (k5.below (aE _));have HX5:=iH h5;clear h5 k5))
   (try simp only[pq]);have HB6:Hid (Below wr.heap.size wr w5.drew):=Below.drewMany HB5.out 1;refine wJ (S:=fun V=>V.heap[wr.heap.size]? =some (.cells (plc x) 186 (0,0))/\fW V) [4,5] hO ⟨HX5.out,HT3.out _ (HNX.out.trans (HB6.out.mono (aG HNW.out HNX.out.size)))⟩ (fun hHeld=> ?_);refine gI (i:=0) (oi:=⟨some 15,_,_,_,_,_⟩) (v:=?v0) rfl hO hO hO hO (fun _ _ _ h=>h) (Or.inl ⟨by rfl,?h0⟩) uAx ?r0
   case h0=>(intro w hSw;(try dsimp only at hSw);first|(go_simp;done)|(go_simp;with_reducible rfl))
   (try simp only[pq]);refine gI (i:=1) (oi:=⟨some 16,_,_,_,_,_⟩) (v:=?v1) rfl hO hO hO hO (fun _ _ _ h=>h) (Or.inl ⟨by rfl,?h1⟩) uAx ?r1
   case h1=>(intro w hSw;(try dsimp only at hSw);first|(go_simp;done)|(go_simp;with_reducible rfl))
   (try simp only[pq]);refine aDz (i:=2) (oi:=⟨some 17,_,_,_,_,_⟩) (v:=.int .i64 (q:Int)) rfl hO hO hO hO (fun _ _ _ h=>h) ⟨by rfl,fun w hSw=>⟨153,#[.int .u32 (L:Int)],?h2,HZ.out w hSw.2⟩⟩ uAx ?r2
   case h2=>go_simp
   (try simp only[pq]);refine gI (i:=3) (oi:=⟨some 18,_,_,_,_,_⟩) (v:=_) rfl hO hO hO hO (fun _ _ _ h=>h) (aP uAz 186 _ rfl wr.heap.size rfl (plc x) 186 (0,0) _ (fun w hw=>hw.1) Tryz.underlying186 rfl dJ) uAx ?_;(try simp only[pq]);obtain⟨fn,tmps,assign,body,hy,hR⟩:=HY.out w5.drew (HJA.out _ _ _ HJS.out HB6.out);unfold aLx at hy;(try dsimp only at hy);refine mS (i:=4) (o:=⟨some 19,_,_,_,_,_⟩) hO uAv rfl (fun K hK=> ?_);rw[if_pos uAz];go_simp;refine hR.mono ?_;rintro e W3 (⟨rfl,hJ3,hk3⟩|⟨rfl,hJx3⟩)
   ·refine hK.out _ _ ?_
    clear hK K hR hy;(try simp only[pq]);refine mS (i:=5) (o:=⟨some 20,_,_,_,_,_⟩) hO uAv rfl (fun K hK=> ?_);rw[if_pos uAz];go_simp;refine hK.out _ _ ?_;clear hK K;(try simp only[pq]);refine qW hO ?_ _;gi_wp2
    go_roundw
    case rel=>exact⟨k+1,q+1,by have:=HLT.out;omega,HCQ.out,by simp,by rw[HLE'.out],by rw[<-HTK.out];exact hJ3,(HNX.out.trans (HB6.out.mono (aG HNW.out HNX.out.size))).trans hk3⟩
    case measure=>have:=HLT.out;simp[intOf];omega
   ·refine hK.out _ _ ?_
    clear hK K hR hy;(try simp only[pq]);refine mS (i:=5) (o:=⟨some 20,_,_,_,_,_⟩) hO uAv rfl (fun K hK=> ?_);rw[if_pos uAz];go_simp;refine hK.out _ _ ?_;clear hK K;(try simp only[pq]);refine qW hO ?_ _;gi_wp2
    refine bF (rH rfl _ _ _) rfl ?_;exact⟨⟨_,rfl⟩,.inr ⟨_,⟨k+1,by have:=HLT.out;rw[<-HLEN.out];omega,HTK.out⟩,hJx3⟩⟩
  ·obtain rfl:k=(nG R).length:=by omega
   gi_wp2
   go_end0;exact⟨⟨_,rfl⟩,.inl ⟨_,rfl,by rwa[HLEN.out,eN]at hJs⟩⟩
theorem uL (n:Nat) (l Bs:Nat) (J:List (Nat×Pl)->World->Prop) (b:Nat) (W:World) (hB0:W.cell? ⟨Bs,0,none⟩=some (.int .u32 (b:Nat))) (hB1:W.cell? ⟨Bs,1,none⟩=some (.slice none 0 0)) (h0:J [] W):
  CallsIn Fence.wide n Tryz.prog 152 #[.func (.yield l) #[] #[],.pointer (some ⟨Bs,0,none⟩)] W fun e W'=>(∃v,e=.returned v)/\J [] W':=by
 refine iF Tryz.func152 rfl trivial ?_ rfl;simp only[Tryz.ntmps152,cA,aL,bG,Nat.reduceAdd,Nat.reduceSub,bY,bW,cM,cD,bD,bC];gi_wp2
 gi_loopw [11] (fun i wr=>i=.int .i64 0/\J [] wr) (fun _ _=>0)
 case atStart=>exact⟨rfl,h0⟩
 case round=>
  obtain⟨rfl,hJs⟩:=hrel;gi_wp2
  go_end0;exact⟨⟨_,rfl⟩,hJs⟩
theorem aD0 (n:Nat) (b:Int) (v:Value) (w:World):
  CallsIn Fence.wide n Tryz.prog 138 #[.agg #[.int .u32 b,v]] w fun e w'=>e=.returned (.func (.func 152) #[] #[.pointer (some ⟨w.heap.size,0,none⟩)])/\w'=w.alloc (.cells #[.int .u32 b,v] 93):=by
 refine iF Tryz.func138 rfl trivial ?_ rfl;simp only[Tryz.ntmps138,cA,aL,bG,Nat.reduceAdd,Nat.reduceSub,bY,bW,cM,cD,bD,bC];gi_wp2
 go_ret;exact⟨rfl,rfl⟩
theorem aDW (n:Nat) (hn:1<=n) (Bs n₀:Nat) (R:Rg Pl) (v:Value) (w:World) (hBs:Bs<w.heap.size) (hn₀:n₀<=w.heap.size) (htn:1<n₀) (hB0:w.cell? ⟨Bs,0,none⟩=some (.int .u32 (eS R 32:Nat)))
  (hB1:w.cell? ⟨Bs,1,none⟩=some v) (hL:aCf n₀ w v (nG R)) (hT:fW w):
  SeqStopsK Fence.wide n Tryz.prog 152 #[.pointer (some ⟨Bs,0,none⟩)] aLx (Below n₀) (fun ys=>ys=iR R) (fun pre=>∃k,k<=(iR R).length/\pre=(iR R).take k) (iR R).length w:=fun l J Jx W hW hJ _ hY h0=>by
 have h0':=(hW.cell (p:=⟨Bs,0,none⟩) hBs).trans hB0;have h1':=(hW.cell (p:=⟨Bs,1,none⟩) hBs).trans hB1;rcases hL.below (hW.mono hn₀)with⟨he,rfl⟩|⟨_,g,c,rfl,hg,hc⟩
 ·have ha:iR R=[]:=aT (by rw[qP,<-nF,he];rfl)
  exact(uL n l Bs J _ W h0' h1' h0).mono fun e W' ⟨hr,hj⟩=>⟨hr,.inl ⟨_,ha.symm,hj⟩⟩
 ·exact aBq n hn l Bs n₀ R g c hg htn J Jx (fun s A B h hb=>hJ s A B none h ⟨hb.os,hb.tape,hb.output,hb.size,fun k hk _=>hb.block k hk⟩ (fun r e=>by cases e)) (fun pre x W hj hl _=>hY pre x W hj hl) W (aG hn₀ hW.size) h0' h1' hc (hT.below hW) h0
theorem aCC (n:Nat) (hn:1<=n) (Bs n₀:Nat) (R:Rg Pl) (v:Value) (w:World) (hBs:Bs<w.heap.size) (hn₀:n₀<=w.heap.size) (htn:1<n₀) (hB0:w.cell? ⟨Bs,0,none⟩=some (.int .u32 (eS R 32:Nat)))
  (hB1:w.cell? ⟨Bs,1,none⟩=some v) (hL:aCf n₀ w v (nG R)) (hT:fW w):
  SeqStopsK (α:={x:Nat×Pl//x∈iR R}) Fence.wide n Tryz.prog 152 #[.pointer (some ⟨Bs,0,none⟩)] (fun x=>aLx x.1) (Below n₀) (fun ys=>ys.map (·.1)=iR R) (fun pre=>∃k,k<=(iR R).length/\pre.map (·.1)=(iR R).take k) (iR R).length w:=fun l J Jx W hW hJ _ hY h0=>by
 have h0':=(hW.cell (p:=⟨Bs,0,none⟩) hBs).trans hB0;have h1':=(hW.cell (p:=⟨Bs,1,none⟩) hBs).trans hB1;rcases hL.below (hW.mono hn₀)with⟨he,rfl⟩|⟨_,g,c,rfl,hg,hc⟩
 ·have ha:iR R=[]:=aT (by rw[qP,<-nF,he];rfl)
  exact(uL n l Bs (fun(pre:List (Nat×Pl)) W=>∃p':List {x:Nat×Pl//x∈iR R},p'.map (·.1)=pre/\J p' W) _ W h0' h1' ⟨[],rfl,h0⟩).mono fun e W' ⟨hr,p',e1,hj⟩=>⟨hr,.inl ⟨p',e1.trans ha.symm,hj⟩⟩
 ·refine(aBq n hn l Bs n₀ R g c hg htn (fun pre W=>∃p':List {x:Nat×Pl//x∈iR R},p'.map (·.1)=pre/\J p' W) (fun pre W=>∃p':List {x:Nat×Pl//x∈iR R},p'.map (·.1)=pre/\Jx p' W)
   (fun s A B ⟨p',e,h⟩ hb=>⟨p',e,hJ p' A B none h ⟨hb.os,hb.tape,hb.output,hb.size,fun k hk _=>hb.block k hk⟩ (fun r e=>by cases e)⟩) ?_ W (aG hn₀ hW.size) h0' h1' hc (hT.below hW) ⟨[],rfl,h0⟩).mono ?_
  ·rintro pre x V ⟨p',e,hj⟩ hl hx
   refine(hY p' ⟨x,hx⟩ V hj (by rw[<-e,aH]at hl;exact hl)).mono ?_;rintro r V' (⟨h1,h2,h3⟩|⟨h1,h2⟩)
   ·exact .inl ⟨h1,⟨_,by rw[bQ,e];rfl,h2⟩,h3⟩
   ·exact .inr ⟨h1,_,by rw[bQ,e];rfl,h2⟩
  ·rintro e W' ⟨hr,⟨ys,e1,p',e2,hj⟩|⟨pre,hp,p',e2,hj⟩⟩
   ·exact⟨hr,.inl ⟨p',e2.trans e1,hj⟩⟩
   ·obtain⟨k,hk,e3⟩:=hp
    exact⟨hr,.inr ⟨p',⟨k,hk,e2.trans e3⟩,hj⟩⟩
end Go.Proofs.YtengibnpebfblaaGreatDoor
namespace Go.Proofs.YtengibnpebfblaaGreatDoor
open Go.RowKit Go.Shelf
attribute [local go_sem] fK
abbrev aAf (V:World) (X:Nat) (p:Pl):Prop:=V.heap[X]? =some (.cells (plc p) 186 (0,0))
theorem jO {V V':World} {X Y:Nat} {cs:Array Value} {T:TypeId} {fr:Nat×Nat} (h:V.heap[Y]? =some (.cells cs T fr)) (k:jK X V V') (hne:Y≠X):V'.heap[Y]? =some (.cells cs T fr):=k.other h hne
theorem jV {X:Nat} {A B:World} {cs:Array Value} {T:TypeId} {fr:Nat×Nat} (h:jK X A B) (hX:A.heap[X]? =some (.cells cs T fr)):KeepsOthers A B:=
 ⟨jZ h.size.symm,fun k o hk ho=>h.other hk (fun e=>by subst e;rw[hX]at hk;cases hk;cases ho)⟩
def nZ (R:Rg Pl):Int×Pl×Bool:=match iR R with
 |[]=>(0,(none,none),false)
 |p::_=>((p.1:Int),p.2,true)
theorem wU (tmps:Array Value) (w:World) (X1 X2 X3:Nat) (i:Int) (p:Pl) (b:Bool) (h1:tmps.getD 2 undef=.pointer (some ⟨X1,0,none⟩)) (h2:tmps.getD 3 undef=.pointer (some ⟨X2,0,none⟩)) (h3:tmps.getD 4 undef=.pointer (some ⟨X3,0,none⟩))
  (c1:Boxed w X1 3 (.int .i64 i)) (c2:aAf w X2 p) (c3:Boxed w X3 4 (.bool b)):
  (results Tryz.f190 tmps).run Tryz.prog w=.ok (.tuple #[.int .i64 i,.agg (plc p),.bool b]) w:=by
 have l1:=c1.cell;have l3:=c3.cell;have l2:w.cell? ⟨X2,0,none⟩=some (pv p.1):=aK c2 rfl;have l4:w.cell? ⟨X2,1,none⟩=some (pv p.2):=aK c2 rfl;simp at h1 h2 h3;simp[results,Tryz.f190,go_sem,h1,h2,h3,l1,l2,l3,l4,plc]
theorem pV {o:Oper} {a:Act} {w:World} {K:Act->World->Prop} {Q:Exit->Act->World->Prop} (ty:TypeId) (x y:Operand) (ho:o.op=.store ty x y)
  (X:Nat) (v:Value) (hx:a.eval x=.pointer (some ⟨X,0,none⟩)) (hy:a.eval y=v) (h1:v.oneCell'=true) (T:TypeId) (u:Value) (hB:Boxed w X T u)
  (hi:(Tryz.prog.info? ty).map (·.size)=some 1)
  (h:∀w',Boxed w' X T v->jK X w w'->K (a.put o.dst undef) w'):o.wp Tryz.prog a w K Q:=by
 unfold Oper.wp execOp;simp only[ho,hx,hy,Instr.storeAt,Instr.sureAddr,fF,fR,cS,nD w X 0 T ty #[u] v hB uBu hi h1];exact h _ (mK w X _ _ _ _ hB) (jA _ _ _)
theorem aNq {ops:Array Oper} {rest:List Oper} {o:Oper} {a:Act} {w:World} {Q:Exit->Act->World->Prop} {n l:Nat} (hgd:o.guard=none) (ty:TypeId) (x y:Operand) (ho:o.op=.store ty x y)
  (X:Nat) (c':Array Value) (hx:a.eval x=.pointer (some ⟨X,0,none⟩)) (hy:a.eval y=.agg c') (T:TypeId) (c:Array Value) (hB:w.heap[X]? =some (.cells c T (0,0)))
  (hi:(Tryz.prog.info? ty).map (·.size)=some c'.size) (hs:c.size=c'.size) (h1:c'.all (·.oneCell')=true)
  (h:∀w',w'.heap[X]? =some (.cells c' T (0,0))->jK X w w'->wpListIn (Fence.wide.inRound l) n Tryz.prog ops Q rest (a.put o.dst undef) w'):wpListIn (Fence.wide.inRound l) n Tryz.prog ops Q (o::rest) a w:=
 pP hgd (fun c' hc=>by rw[ho]at hc;cases hc) fun _ hK=>kH ty x y ho X c' hx hy T c hB hi hs h1 fun w' h1 h2=>hK _ _ (h w' h1 h2)
theorem aGZ:(Tryz.prog.info? 3).map (·.size)=some 1:=by kernel_rfl
theorem aI4:(Tryz.prog.info? 4).map (·.size)=some 1:=by kernel_rfl
theorem aFi {S:Nat->Prop} (w:World) (R:Rg Pl) (c:Array Value) (h:AtR S w R c) (hT:fW w):Calls Tryz.prog 190 #[.agg c] w fun e W'=>e=.returned (.tuple #[.int .i64 (nZ R).1,.agg (plc (nZ R).2.1),.bool (nZ R).2.2])/\Below w.heap.size w W':=by
 obtain⟨v,rfl,h2⟩:=h;have HPL:=iH (aKF h2.old (n₀:=w.heap.size) (fun g hg=>hg.2));obtain⟨a,n,rfl,_⟩:=h2.shape;have HTT:=iH hT;refine(cY (n:=5)).1 ?_;refine eW Tryz.func190 rfl trivial ?_ rfl;simp only[Tryz.ntmps190,cA,aL,bG,Nat.reduceAdd,Nat.reduceSub,bY,bW,cM,cD,bD,bC];have htl:1<w.heap.size:=aM w _ (hT 0 uAv);clear h2 hT;gi_wp2_with (refine⟨trivial,?_⟩;gi_at_call 138;refine(aD0 _ _ _ _).mono ?_;rintro e w' ⟨rfl,rfl⟩)
 obtain⟨W1,hW1⟩:∃W1,w.alloc (.cells #[.int .u32 (eS R 32:Nat),.slice a (fQ R 32) n] 93)=W1:=⟨_,rfl⟩
 have hs1:W1.heap.size=w.heap.size+1:=by rw[<-hW1];simp
 have hb1:Below w.heap.size w W1:=by rw[<-hW1];exact Below.newly' _ _
 rw[hW1];obtain⟨W2,hW2⟩:∃W2,W1.alloc (.cells #[.int .i64 0] 3)=W2:=⟨_,rfl⟩
 have hs2:W2.heap.size=w.heap.size+2:=by rw[<-hW2];simp;omega
 have hx2:Boxed W2 (w.heap.size+1) 3 (.int .i64 0):=by rw[<-hs1,<-hW2];exact Boxed.new _ _ _
 have hb2:Below w.heap.size w W2:=by rw[<-hW2];exact hb1.alloc uAu _
 rw[hW2];obtain⟨W3,hW3⟩:∃W3,W2.alloc (.cells #[.pointer none,.pointer none] 186)=W3:=⟨_,rfl⟩
 have hs3:W3.heap.size=w.heap.size+3:=by rw[<-hW3];simp;omega
 have hp3:aAf W3 (w.heap.size+1+1) (none,none):=by
  have h:=aF W2 (.cells #[.pointer none,.pointer none] 186);rw[hW3,hs2]at h;exact h
 have hx3:Boxed W3 (w.heap.size+1) 3 (.int .i64 0):=by rw[<-hW3];exact hx2.alloc _
 have hb3:Below w.heap.size w W3:=by rw[<-hW3];exact hb2.alloc uAu _
 rw[hW3];obtain⟨W4,hW4⟩:∃W4,W3.alloc (.cells #[.bool false] 4)=W4:=⟨_,rfl⟩
 have hs4:W4.heap.size=w.heap.size+4:=by rw[<-hW4];simp;omega
 have hp4:aAf W4 (w.heap.size+1+1) (none,none):=by rw[<-hW4];exact((Below.newly' _ _).block _ uAu).trans hp3
 have hx4:Boxed W4 (w.heap.size+1) 3 (.int .i64 0):=by rw[<-hW4];exact hx3.alloc _
 have hy4:Boxed W4 (w.heap.size+1+1+1) 4 (.bool false):=by rw[show w.heap.size+1+1+1=W3.heap.size by omega,<-hW4];exact Boxed.new _ _ _
 have hb4:Below w.heap.size w W4:=by rw[<-hW4];exact hb3.alloc uAu _
 rw[hW4];obtain⟨W0,hW0⟩:∃W0,W4.alloc (.cells #[.int .u32 (eS R 32:Nat),.slice a (fQ R 32) n] 93)=W0:=⟨_,rfl⟩
 have hs0:W0.heap.size=w.heap.size+5:=by rw[<-hW0];simp;omega
 have hp0:aAf W0 (w.heap.size+1+1) (none,none):=by rw[<-hW0];exact((Below.newly' _ _).block _ uAu).trans hp4
 have hx0:Boxed W0 (w.heap.size+1) 3 (.int .i64 0):=by rw[<-hW0];exact hx4.alloc _
 have hy0:Boxed W0 (w.heap.size+1+1+1) 4 (.bool false):=by rw[<-hW0];exact hy4.alloc _
 have hb0:Below w.heap.size w W0:=by rw[<-hW0];exact hb4.alloc uAu _
 have hr0:W0.heap[w.heap.size+1+1+1+1]? =some (.cells #[.int .u32 (eS R 32:Nat),.slice a (fQ R 32) n] 93 (0,0)):=by
  rw[show w.heap.size+1+1+1+1=W4.heap.size by omega,<-hW0];exact aF _ _
 rw[hW0];clear hW0 hW1 hW2 hW3 hW4 hs1 hs2 hs3 hs4 hb1 hb2 hb3 hb4 hx2 hx3 hx4 hp3 hp4 hy4;refine wpIn_rangeFunc_ownH (F:=Fence.wide) rfl uAu (gf:=152) (lb:=#[.pointer (some ⟨w.heap.size+1+1+1+1,0,none⟩)]) rfl trivial (lX Tryz.func152 hO rfl)
  (aDW 4 uAu (w.heap.size+1+1+1+1) w.heap.size R _ W0 uAu uAu htl (aK hr0 rfl) (aK hr0 rfl) (HPL.out.below hb0) (HTT.out.below hb0)) belowK_t (belowK_b uAu) (aY _ _) (fun _=>rfl)
  (fun pre V=>(pre=[]/\Boxed V (w.heap.size+1) 3 (.int .i64 0)/\aAf V (w.heap.size+1+1) (none,none)/\Boxed V (w.heap.size+1+1+1) 4 (.bool false))/\Below w.heap.size w V)
  (fun k pre V=>(k=.ret/\∃x:Nat×Pl,pre=[x]/\Boxed V (w.heap.size+1) 3 (.int .i64 (x.1:Int))/\aAf V (w.heap.size+1+1) x.2/\Boxed V (w.heap.size+1+1+1) 4 (.bool true))/\Below w.heap.size w V)
  (OwnFrom.and (Own.from (fun s A B row hs hg hr=>⟨hs.1,pQ hs.2.1 hg hr,oS hs.2.2.1 hg hr,pQ hs.2.2.2 hg hr⟩) _) (ownFrom_below (aE _) uAu))
  (fun k=>OwnFrom.and (Own.from (fun s A B row hs hg hr=>by obtain⟨hc,x,e1,e2,e3,e4⟩:=hs;exact⟨hc,x,e1,pQ e2 hg hr,oS e3 hg hr,pQ e4 hg hr⟩) _) (ownFrom_below (aE _) uAu))
  ⟨⟨rfl,hx0,hp0,hy0⟩,hb0⟩
  (fun x a' V=>∃Bx,w.heap.size+4<=Bx/\aAf V Bx x.2/\a'={tmps:=#[.agg #[.int .u32 (eS R 32:Nat),.slice a (fQ R 32) n],.pointer (some ⟨w.heap.size,0,none⟩),.pointer (some ⟨w.heap.size+1,0,none⟩),.pointer (some ⟨w.heap.size+1+1,0,none⟩),.pointer (some ⟨w.heap.size+1+1+1,0,none⟩),.int .i64 (x.1:Int),.pointer (some ⟨Bx,0,none⟩),undef,.agg #[.int .u32 (eS R 32:Nat),.slice a (fQ R 32) n],.func (.func 152) #[] #[.pointer (some ⟨w.heap.size+1+1+1+1,0,none⟩)],.int .i64 (x.1:Int),.agg (plc x.2),undef,undef,undef],defers:=[]})
  (fun x a'=>Own.from (fun s A B row hs hg hr=>by obtain⟨Bx,h1,h2,h3⟩:=hs;exact⟨Bx,h1,oS h2 hg hr,h3⟩) _)
  ?assign ?body ?done ?stop
 case assign=>
  rintro l pre x V K ⟨⟨rfl,h2,h3,h4⟩,hB⟩ hK;have hVs:=hb0.size;gi_wp2_with (refine aNq rfl 186 _ _ rfl V.heap.size (plc x.2) rfl rfl 186 (plc (none,none)) (aF _ _) dJ rfl (gM x.2) ?_;intro w5 h5 k5;have hb5:Below V.heap.size V w5:=(Below.newly' _ _).trans (k5.below (aE _)))
  exact hK _ _ (((KeepsOthers.alloc V _).trans (jV k5 (aF _ _))).from _) (hb5.mono hB.size) ⟨⟨by trivial,(hb5.block _ h2.lt).trans h2,kW hb5 h3,(hb5.block _ h4.lt).trans h4⟩,tW hB hb5⟩ ⟨V.heap.size,by have:=h4.lt;omega,h5,rfl⟩
 case body=>
  rintro l pre x a' V hl ⟨r,hr⟩ ⟨⟨rfl,h2,h3,h4⟩,hB⟩ ⟨Bx,hBx,bX,rfl⟩ hlt;have H2:=iH h2;have H3:=iH h3;have H4:=iH h4;have HX:=iH bX;have HBV:=iH hB;clear h2 h3 h4 bX hB hx0 hp0 hy0 hr0 hb0 hr;gi_wp2
  refine rB (S:=(fun V=>aAf V Bx x.2)) [3,4] hO hO (fun⟨_,_,h⟩=>h) (by first|exact HX.out|exact HX6.out) (fun hHeld=> ?_);refine tkA 0 12 (h:=?_);refine tyA 1 13 (hy:=aP uAz 186 _ rfl Bx rfl (plc x.2) 186 (0,0) _ (fun w hw=>hw) Tryz.underlying186 rfl (by exact dJ)) (h:=?_);(try simp only[pq]);refine tkO 2 none (h:=fun K hK=> ?_);rw[if_pos uAz];refine pV 3 _ _ rfl (w.heap.size+1) (.int .i64 (x.1:Int)) rfl rfl rfl 3 _ H2.out aGZ ?_;intro w6 h6 k6;have G1:=iH h6;have G2:=iH (jO (V:=V.drew) H3.out k6 uAu);have G3:Hid (Boxed w6 (w.heap.size+1+1+1) 4 (.bool false)):=jO (V:=V.drew) H4.out k6 uAu;have HX6:=iH (jO (V:=V.drew) HX.out k6 uAu);have HB6:=iH ((Below.drewMany HBV.out 1).trans (k6.below (B:=w.heap.size) uAu));have HK6:=iH ((aAt (bE V)).trans (jV (A:=V.drew) k6 H2.out));clear h6 k6;refine hK.out _ _ (by first|exact HX.out|exact HX6.out) (fun hHeld=> ?_);clear hK K;(try simp only[pq]);refine tkU 3 none (h:=fun K hK=> ?_);rw[if_pos uAz];refine kH 186 _ _ rfl (w.heap.size+1+1) (plc x.2) rfl rfl 186 _ G2.out dJ rfl (gM x.2) ?_;intro w7 h7 k7;have G4:=iH h7;have G5:Hid (Boxed w7 (w.heap.size+1) 3 (.int .i64 (x.1:Int))):=jO G1.out k7 uAu;have G6:Hid (Boxed w7 (w.heap.size+1+1+1) 4 (.bool false)):=jO G3.out k7 uAu;have HB7:=iH (HB6.out.trans (k7.below (B:=w.heap.size) uAu));have HK7:=iH (HK6.out.trans (jV k7 G2.out));clear h7 k7;refine hK.out _ _ ?_;clear hK K;(try simp only[pq]);refine tkU 4 none (h:=fun K hK=> ?_);rw[if_pos uAz];refine pV 4 _ _ rfl (w.heap.size+1+1+1) (.bool true) rfl rfl rfl 4 _ G6.out aI4 ?_;intro w8 h8 k8;refine hK.out _ _ ?_;clear hK K;(try simp only[pq]);refine bK hO ?_ _;gi_wp2
  exact⟨(HK7.out.trans (jV k8 G6.out)).from _,⟨rfl,x,rfl,jO G5.out k8 uAu,jO G4.out k8 uAu,h8⟩,HB7.out.trans (k8.below (B:=w.heap.size) uAu)⟩
 case done=>
  rintro D ys V hD rfl ⟨⟨hne,h2,h3,h4⟩,hB⟩ hK;have H2:=iH h2;have H3:=iH h3;have H4:=iH h4;have HBV:=iH hB;have HKD:=iH hK;have HDD:=iH hD;clear h2 h3 h4 hB hK hx0 hp0 hy0 hr0 hb0 hD;gi_wp2
  refine gH.2 ?_;refine wp_region_noPanic ?_;have HVL:Hid (w.heap.size+1+1+1<V.heap.size):=H4.out.lt;obtain⟨Vd,hVd⟩:∃Vd,(V.alloc (.cells #[.pointer none,.pointer none] 186)).drew=Vd:=⟨_,rfl⟩
  have hbd:Below V.heap.size V Vd:=by rw[<-hVd];exact Below.drewMany (Below.newly' V _) 1
  have HXv:Hid (aAf Vd V.heap.size (none,none)):=by show _=_;rw[<-hVd];exact aF V _
  have H2v:Hid (Boxed Vd (w.heap.size+1) 3 (.int .i64 0)):=(hbd.block _ H2.out.lt).trans H2.out;have H3v:Hid (aAf Vd (w.heap.size+1+1) (none,none)):=kW hbd H3.out;have H4v:Hid (Boxed Vd (w.heap.size+1+1+1) 4 (.bool false)):=(hbd.block _ H4.out.lt).trans H4.out;have HBd:=iH (tW HBV.out hbd);have HKd:=iH (aAt hbd);clear hbd;refine bL (S:=(fun V'=>aAf V' V.heap.size (none,none))) [2,3] hO uPx (fun hHeld=> ?_);rw[hVd];refine tyA 0 14 (hy:=aP uAz 186 _ rfl V.heap.size rfl (plc (none,none)) 186 (0,0) _ (fun w hw=>hw) Tryz.underlying186 rfl (by exact dJ)) (h:=?_);(try simp only[pq]);refine tkO 1 none (h:=fun K hK=> ?_);rw[if_pos uAz];refine pV 3 _ _ rfl (w.heap.size+1) (.int .i64 0) rfl rfl rfl 3 _ H2v.out aGZ ?_;intro w6 h6 k6;have G1:=iH h6;have G2:=iH (jO (V:=Vd) H3v.out k6 uAu);have G3:Hid (Boxed w6 (w.heap.size+1+1+1) 4 (.bool false)):=jO (V:=Vd) H4v.out k6 uAu;have HX6:=iH (jO (V:=Vd) HXv.out k6 (by have:=HVL.out;omega));have HB6:=iH (HBd.out.trans (k6.below (B:=w.heap.size) uAu));have HK6:=iH (HKd.out.trans (jV (A:=Vd) k6 H2v.out));clear h6 k6;refine hK.out _ _ uPx (fun hHeld=> ?_);clear hK K;(try simp only[pq]);refine tkU 2 none (h:=fun K hK=> ?_);rw[if_pos uAz];refine kH 186 _ _ rfl (w.heap.size+1+1) (plc (none,none)) rfl rfl 186 _ G2.out dJ rfl (gM (none,none)) ?_;intro w7 h7 k7;have G4:=iH h7;have G5:Hid (Boxed w7 (w.heap.size+1) 3 (.int .i64 0)):=jO G1.out k7 uAu;have G6:Hid (Boxed w7 (w.heap.size+1+1+1) 4 (.bool false)):=jO G3.out k7 uAu;have HB7:=iH (HB6.out.trans (k7.below (B:=w.heap.size) uAu));have HK7:=iH (HK6.out.trans (jV k7 G2.out));clear h7 k7;refine hK.out _ _ ?_;clear hK K;(try simp only[pq]);refine tkU 3 none (h:=fun K hK=> ?_);rw[if_pos uAz]
  refine pV 4 _ _ rfl (w.heap.size+1+1+1) (.bool false) rfl rfl rfl 4 _ G6.out aI4 ?_;intro w8 h8 k8;refine hK.out _ _ ?_;clear hK K;(try simp only[pq]);refine bK hO ?_ _;refine NoPanic.normal ?_;gi_wp2
  have hK':=(HK7.out.trans (jV k8 G6.out)).same D _ HKD.out rfl;have q2:=pQ (jO G5.out k8 uAu) (eM _ D (.deferred none)) (fun r e=>by cases e;exact⟨_,hK',rfl⟩);have q3:=oS (jO G4.out k8 uAu) (eM _ D (.deferred none)) (fun r e=>by cases e;exact⟨_,hK',rfl⟩);have q4:=pQ h8 (eM _ D (.deferred none)) (fun r e=>by cases e;exact⟨_,hK',rfl⟩);have hf:nZ R=(0,(none,none),false):=by unfold nZ;rw[hne]
  refine⟨by simp,.inl ⟨_,_,rfl,jC hK',?_⟩⟩;refine⟨.tuple #[.int .i64 0,.agg (plc (none,none)),.bool false],wU _ _ _ _ _ _ _ _ rfl rfl rfl q2 q3 q4,by rw[hf],(HB7.out.trans (k8.below (B:=w.heap.size) uAu)).trans (belowK_b (w:=w) (aE _) _ D _ _ (by have:=HDD.out;omega) hK' rfl rfl)⟩
 case stop=>
  rintro D k pre V hD ⟨m,hm,rfl⟩ ⟨⟨rfl,x,e1,e2,e3,e4⟩,hB⟩ hK;gi_wp2
  have q2:=pQ e2 (eM _ D (.deferred none)) (fun r e=>by cases e;exact⟨_,hK,rfl⟩);have q3:=oS e3 (eM _ D (.deferred none)) (fun r e=>by cases e;exact⟨_,hK,rfl⟩);have q4:=pQ e4 (eM _ D (.deferred none)) (fun r e=>by cases e;exact⟨_,hK,rfl⟩);have hf:nZ R=((x.1:Int),x.2,true):=by
   unfold nZ;cases hr:iR R with
   |nil=>rw[hr]at e1;simp at e1
   |cons p t=>
    rw[hr]at e1;cases m with
    |zero=>simp at e1
    |succ m=>
     rw[fP]at e1;obtain rfl:p=x:=(lE e1).1;rfl
  refine⟨by simp,.inl ⟨_,_,rfl,jC hK,?_⟩⟩;refine⟨.tuple #[.int .i64 (x.1:Int),.agg (plc x.2),.bool true],wU _ _ _ _ _ _ _ _ rfl rfl rfl q2 q3 q4,by rw[hf],hB.trans (belowK_b (w:=w) (aE _) _ D _ _ uAu hK rfl rfl)⟩
end Go.Proofs.YtengibnpebfblaaGreatDoor
