import Derived.Test.YthmfgidbcghnfaaGreatDoorQ0
import Derived.Test.YthmfgidbcghnfaaGreatDoorQ14
set_option maxRecDepth 1000000
set_option maxHeartbeats 8000000
set_option linter.unusedSimpArgs false
namespace Go.Proofs.YthmfgidbcghnfaaGreatDoor
open Go.RowKit Go.Shelf
attribute [local go_sem] fS
abbrev aPx (x:Nat×Pl):Array Value:=#[Value.int .i64 (x.1:Int),Value.agg (plc x.2)]
def aDl (n₀:Nat) (W:World) (v:Value) (xs:List Pl):Prop:=
 (xs=[]/\v=.slice none 0 0)\/(0<xs.length/\∃(g c:Nat),v=.slice (some ⟨g,0,none⟩) xs.length c/\g<n₀/\∀k (hk:k<xs.length),W.rangeAt g (k*2) (oK xs[k]))
theorem aOg {S:Nat->Prop} {n₀:Nat} {W:World} {v:Value} {xs:List Pl} {n:Nat} (h:dE S W 258 2 v (en oK xs) n) (hS:∀g,S g->g<n₀):aDl n₀ W v xs:=by
 have hl:=h.1;rw[lQ pX]at hl;rcases fN n with h0|h0
 ·obtain⟨_,⟨_,rfl⟩|⟨h1,_⟩⟩:=h
  ·exact .inl ⟨aQ hO,rfl⟩
  ·omega
 ·have hn:n=xs.length:=by omega
  subst hn;obtain⟨g,c,_,_,h1,_,h2,_⟩:=h.pos h0;refine .inr ⟨h0,g,c,h1,hS g h2,fun k hk=> ?_⟩;obtain⟨g',c',e,_,_,_,_,hr⟩:=aHl h (List.getElem?_eq_getElem hk);rw[h1]at e;simp only[eJ,bA,mE,yA,rV]at e;rw[e.1];exact hr
theorem aDl.below {n₀:Nat} {A B:World} {v:Value} {xs:List Pl} (h:Below n₀ A B):aDl n₀ A v xs->aDl n₀ B v xs
 | .inl e=>.inl e
 | .inr ⟨h0,g,c,e,hg,hc⟩=>.inr ⟨h0,g,c,e,hg,fun k hk j u hu=>(h.cell (p:=⟨g,k*2+j,none⟩) hg).trans (hc k hk j u hu)⟩
theorem aCg (n:Nat) (hn:1<=n) (l Bs n₀:Nat) (R:Rg Pl) (g cp:Nat) (GR:g<n₀) (Ju:4<n₀) (J Jx:List (Nat×Pl)->World->Prop)
  (hJ:∀s A B,J s A->Below A.heap.size A B->J s B)
  (hY:∀pre x W,J pre W->pre.length<(iZ R).length->x∈iZ R->YieldAt Fence.wide (n-1) Tryz.prog l (aPx x) W fun e W'=>
   (e=.returned (.bool true)/\J (pre++[x]) W'/\Below n₀ W W')\/(e=.returned (.bool false)/\Jx (pre++[x]) W'))
  (W:World) (Qe:n₀<=W.heap.size) (Qf:W.cell? ⟨Bs,0,none⟩=some (.int .u32 (eV R 32:Nat))) (Ej:W.cell? ⟨Bs,1,none⟩=some (.slice (some ⟨g,0,none⟩) (oH R).length cp))
  (hL:∀k (hk:k<(oH R).length),W.rangeAt g (k*2) (oK (oH R)[k])) (hT:iF W) (h0:J [] W):
  CallsIn Fence.wide n Tryz.prog 231 #[.func (.yield l) #[] #[],.pointer (some ⟨Bs,0,none⟩)] W fun e W'=>(∃v,e=.returned v)/\
   ((∃ys,ys=iZ R/\J ys W')\/(∃pre,(∃k,k<=(iZ R).length/\pre=(iZ R).take k)/\Jx pre W')):=by
 have Ua:=iH hJ;clear hJ;refine iO Tryz.func231 rfl trivial ?_ rfl;simp only[Tryz.ntmps231,bI,aD,aK,Nat.reduceAdd,Nat.reduceSub,bT,bS,cH,bU,aT,aP];gi_wp2
 have bz:=iH (show(oH R).length=(iZ R).length by rw[oG,rD]);have GS:((oH R).length:Int)<=32:=by have:=zZ R 32;rw[<-oG]at this;omega
 have tr:=iH Qe;clear Qe;gi_loopw [3,11] (fun left i wr=>∃k p:Nat,k<=(oH R).length/\gB R p=k/\i=.int .i64 k/\left=.int .u32 (oT (eV R 32) p:Nat)/\J ((iZ R).take k) wr/\Below n₀ W wr) (fun _ i _=>(oH R).length-(intOf i).toNat)
 case atStart=>exact⟨0,0,aS _,rfl,rfl,by rw[aMn],h0,bB _ _⟩
 case round=>
  obtain⟨k,p,hk,hp,rfl,rfl,Qg,pf⟩:=hrel;by_cases hlt:k<(oH R).length
  ·obtain⟨q,x,Hl,Qh,Pp,hq,hx,N7,Qi,Bu⟩:=aMo R (p:=p) (by rw[hp,<-oG];exact hlt)
   have nc:Hid (wr.rangeAt g (k*2) (oK (oH R)[k])):=fun j u hu=>(pf.cell (p:=⟨g,k*2+j,none⟩) GR).trans (hL k hlt j u hu)
   have Af:=aL9 R hq hx;rw[N7,hp]at Af;have Qj:=aKx R hq hx;rw[N7,hp,List.getElem?_eq_getElem hlt]at Qj;obtain Qj:=aH Qj;rw[Qj]at nc;have lq:(iZ R).take k++[(q,x)]=(iZ R).take (k+1):=by
    obtain⟨h1,h2⟩:=List.getElem?_eq_some_iff.1 Af;rw[bP h1,h2]
   have HY:Hid (∀V,J ((iZ R).take k) V->YieldAt Fence.wide (n-1) Tryz.prog l (aPx (q,x)) V fun e W'=>
     (e=.returned (.bool true)/\J ((iZ R).take k++[(q,x)]) W'/\Below n₀ V W')\/(e=.returned (.bool false)/\Jx ((iZ R).take k++[(q,x)]) W')):=fun V hV=>hY _ (q,x) V hV (by rw[bQ,<-bz.out];omega) (fK Af)
   have Hp:oT (eV R 32) p<4294967296:=aKy p (tD R 32);have P9:Hid (∀V,Below n₀ W V->iF V):=fun V hV j hj=>(hV.cell (p:=⟨4,j,none⟩) Ju).trans (hT j hj)
   have HZ:Hid (∀V,iF V->Calls Tryz.prog 232 #[.int .u32 (oT (eV R 32) p:Nat)] V fun e w'=>e=.returned (.int .i64 (q:Nat))/\w'=V):=fun V hV=>by
    have h:=aNU (oT (eV R 32) p) Hp Hl V hV;rw[Qh]at h;exact h
   obtain⟨L,Wy⟩:∃L,L=oT (eV R 32) p:=⟨_,rfl⟩
   obtain⟨L',Ls⟩:∃L',L'=oT (eV R 32) (q+1):=⟨_,rfl⟩
   rw[<-Wy,<-Ls]at Bu;rw[<-Wy]at Hl Hp HZ ⊢;obtain⟨M,hM⟩:∃M,M=L-1:=⟨_,rfl⟩
   rw[<-hM]at Bu;have e1:(L:Int)-1=(M:Int):=by omega
   have e2:bits .and .u32 (L:Int) (M:Int)=(L':Int):=by rw[<-Bu];exact aGn L M Hp
   have MO:1<=(L:Int):=by omega
   have Wz:=iH Ls;have vi:=iH lq;have GT:=iH (Qi.trans (by rw[hp]));have GU:=iH Qg;have fk:=iH pf;have ew:=iH hlt;clear Af Qj lq Bu hM Qh Wy Ls N7 Qi Qg pf hL hY hT h0;gi_wp2_with (first
    |(refine aCz rfl 258 _ rfl g (k*2) rfl (oK x) _ nc.out Tryz.underlying258 rfl dN ?_)
    |(refine aFx rfl 258 _ _ rfl wr.heap.size (plc x) rfl rfl 258 (plc (none,none)) (aC _ _) dN rfl (gW x) ?_;intro w5 h5 k5;have bp:Hid (Below wr.heap.size wr w5):=(Below.newly' _ _).trans (k5.below (aA _));have fg:=iH h5;clear h5 k5))
   (try simp only[pq]);have ek:Hid (Below wr.heap.size wr w5.drew):=Below.drewMany bp.out 1;refine xU (S:=fun V=>V.heap[wr.heap.size]? =some (.cells (plc x) 258 (0,0))/\iF V) [4,5] uAu ⟨fg.out,P9.out _ (fk.out.trans (ek.out.mono (aI tr.out fk.out.size)))⟩ (fun ab=> ?_);refine gR (i:=0) (oi:=⟨some 15,_,_,_,_,_⟩) (v:=?v0) rfl uAu uAu uAu uAu (fun _ _ _ h=>h) (Or.inl ⟨by rfl,?h0⟩) uCw ?r0
   case h0=>(intro w jy;(try dsimp only at jy);first|(go_simp;done)|(go_simp;with_reducible rfl))
   (try simp only[pq]);refine gR (i:=1) (oi:=⟨some 16,_,_,_,_,_⟩) (v:=?v1) rfl uAu uAu uAu uAu (fun _ _ _ h=>h) (Or.inl ⟨by rfl,?h1⟩) uCw ?r1
   case h1=>(intro w jy;(try dsimp only at jy);first|(go_simp;done)|(go_simp;with_reducible rfl))
   (try simp only[pq]);refine aFd (i:=2) (oi:=⟨some 17,_,_,_,_,_⟩) (v:=.int .i64 (q:Int)) rfl uAu uAu uAu uAu (fun _ _ _ h=>h) ⟨by rfl,fun w jy=>⟨232,#[.int .u32 (L:Int)],?h2,HZ.out w jy.2⟩⟩ uCw ?r2
   case h2=>go_simp
   (try simp only[pq]);refine gR (i:=3) (oi:=⟨some 18,_,_,_,_,_⟩) (v:=_) rfl uAu uAu uAu uAu (fun _ _ _ h=>h) (aJ uAz 258 _ rfl wr.heap.size rfl (plc x) 258 (0,0) _ (fun w hw=>hw.1) Tryz.underlying258 rfl dN) uCw ?_;(try simp only[pq]);obtain⟨fn,tmps,assign,body,hy,hR⟩:=HY.out w5.drew (Ua.out _ _ _ GU.out ek.out);unfold aPx at hy;(try dsimp only at hy);refine nS (i:=4) (o:=⟨some 19,_,_,_,_,_⟩) uAu uAv rfl (fun K hK=> ?_);rw[if_pos uAz];go_simp;refine hR.mono ?_;rintro e W3 (⟨rfl,Ub,nh⟩|⟨rfl,Hq⟩)
   ·refine hK.out _ _ ?_
    clear hK K hR hy;(try simp only[pq]);refine nS (i:=5) (o:=⟨some 20,_,_,_,_,_⟩) uAu uAv rfl (fun K hK=> ?_);rw[if_pos uAz];go_simp;refine hK.out _ _ ?_;clear hK K;(try simp only[pq]);refine rI uAu ?_ _;gi_wp2
    go_roundw
    case rel=>exact⟨k+1,q+1,by have:=ew.out;omega,GT.out,by simp,by rw[Wz.out],by rw[<-vi.out];exact Ub,(fk.out.trans (ek.out.mono (aI tr.out fk.out.size))).trans nh⟩
    case measure=>have:=ew.out;simp[intOf];omega
   ·refine hK.out _ _ ?_
    clear hK K hR hy;(try simp only[pq]);refine nS (i:=5) (o:=⟨some 20,_,_,_,_,_⟩) uAu uAv rfl (fun K hK=> ?_);rw[if_pos uAz];go_simp;refine hK.out _ _ ?_;clear hK K;(try simp only[pq]);refine rI uAu ?_ _;gi_wp2
    refine aN (pQ rfl _ _ _) rfl ?_;exact⟨⟨_,rfl⟩,.inr ⟨_,⟨k+1,by have:=ew.out;rw[<-bz.out];omega,vi.out⟩,Hq⟩⟩
  ·obtain rfl:k=(oH R).length:=by omega
   gi_wp2
   go_end0;exact⟨⟨_,rfl⟩,.inl ⟨_,rfl,by rwa[bz.out,mZ]at Qg⟩⟩
theorem vK (n:Nat) (l Bs:Nat) (J:List (Nat×Pl)->World->Prop) (b:Nat) (W:World) (Qf:W.cell? ⟨Bs,0,none⟩=some (.int .u32 (b:Nat))) (Ej:W.cell? ⟨Bs,1,none⟩=some (.slice none 0 0)) (h0:J [] W):
  CallsIn Fence.wide n Tryz.prog 231 #[.func (.yield l) #[] #[],.pointer (some ⟨Bs,0,none⟩)] W fun e W'=>(∃v,e=.returned v)/\J [] W':=by
 refine iO Tryz.func231 rfl trivial ?_ rfl;simp only[Tryz.ntmps231,bI,aD,aK,Nat.reduceAdd,Nat.reduceSub,bT,bS,cH,bU,aT,aP];gi_wp2
 gi_loopw [11] (fun i wr=>i=.int .i64 0/\J [] wr) (fun _ _=>0)
 case atStart=>exact⟨rfl,h0⟩
 case round=>
  obtain⟨rfl,Qg⟩:=hrel;gi_wp2
  go_end0;exact⟨⟨_,rfl⟩,Qg⟩
theorem aEl (n:Nat) (b:Int) (v:Value) (w:World):
  CallsIn Fence.wide n Tryz.prog 192 #[.agg #[.int .u32 b,v]] w fun e w'=>e=.returned (.func (.func 231) #[] #[.pointer (some ⟨w.heap.size,0,none⟩)])/\w'=w.alloc (.cells #[.int .u32 b,v] 131):=by
 refine iO Tryz.func192 rfl trivial ?_ rfl;simp only[Tryz.ntmps192,bI,aD,aK,Nat.reduceAdd,Nat.reduceSub,bT,bS,cH,bU,aT,aP];gi_wp2
 go_ret;exact⟨rfl,rfl⟩
theorem aFG (n:Nat) (hn:1<=n) (Bs n₀:Nat) (R:Rg Pl) (v:Value) (w:World) (Qk:Bs<w.heap.size) (b8:n₀<=w.heap.size) (Ju:4<n₀) (Qf:w.cell? ⟨Bs,0,none⟩=some (.int .u32 (eV R 32:Nat)))
  (Ej:w.cell? ⟨Bs,1,none⟩=some v) (hL:aDl n₀ w v (oH R)) (hT:iF w):
  SeqStopsK Fence.wide n Tryz.prog 231 #[.pointer (some ⟨Bs,0,none⟩)] aPx (Below n₀) (fun ys=>ys=iZ R) (fun pre=>∃k,k<=(iZ R).length/\pre=(iZ R).take k) (iZ R).length w:=fun l J Jx W hW hJ _ hY h0=>by
 have Dj:=(hW.cell (p:=⟨Bs,0,none⟩) Qk).trans Qf;have nl:=(hW.cell (p:=⟨Bs,1,none⟩) Qk).trans Ej;rcases hL.below (hW.mono b8)with⟨he,rfl⟩|⟨_,g,c,rfl,hg,hc⟩
 ·have ha:iZ R=[]:=aQ (by rw[rD,<-oG,he];rfl)
  exact(vK n l Bs J _ W Dj nl h0).mono fun e W' ⟨hr,hj⟩=>⟨hr,.inl ⟨_,ha.symm,hj⟩⟩
 ·exact aCg n hn l Bs n₀ R g c hg Ju J Jx (fun s A B h hb=>hJ s A B none h ⟨hb.os,hb.tape,hb.output,hb.size,fun k hk _=>hb.block k hk⟩ (fun r e=>by cases e)) (fun pre x W hj hl _=>hY pre x W hj hl) W (aI b8 hW.size) Dj nl hc (hT.below hW) h0
theorem aDT (n:Nat) (hn:1<=n) (Bs n₀:Nat) (R:Rg Pl) (v:Value) (w:World) (Qk:Bs<w.heap.size) (b8:n₀<=w.heap.size) (Ju:4<n₀) (Qf:w.cell? ⟨Bs,0,none⟩=some (.int .u32 (eV R 32:Nat)))
  (Ej:w.cell? ⟨Bs,1,none⟩=some v) (hL:aDl n₀ w v (oH R)) (hT:iF w):
  SeqStopsK (α:={x:Nat×Pl//x∈iZ R}) Fence.wide n Tryz.prog 231 #[.pointer (some ⟨Bs,0,none⟩)] (fun x=>aPx x.1) (Below n₀) (fun ys=>ys.map (·.1)=iZ R) (fun pre=>∃k,k<=(iZ R).length/\pre.map (·.1)=(iZ R).take k) (iZ R).length w:=fun l J Jx W hW hJ _ hY h0=>by
 have Dj:=(hW.cell (p:=⟨Bs,0,none⟩) Qk).trans Qf;have nl:=(hW.cell (p:=⟨Bs,1,none⟩) Qk).trans Ej;rcases hL.below (hW.mono b8)with⟨he,rfl⟩|⟨_,g,c,rfl,hg,hc⟩
 ·have ha:iZ R=[]:=aQ (by rw[rD,<-oG,he];rfl)
  exact(vK n l Bs (fun(pre:List (Nat×Pl)) W=>∃p':List {x:Nat×Pl//x∈iZ R},p'.map (·.1)=pre/\J p' W) _ W Dj nl ⟨[],rfl,h0⟩).mono fun e W' ⟨hr,p',e1,hj⟩=>⟨hr,.inl ⟨p',e1.trans ha.symm,hj⟩⟩
 ·refine(aCg n hn l Bs n₀ R g c hg Ju (fun pre W=>∃p':List {x:Nat×Pl//x∈iZ R},p'.map (·.1)=pre/\J p' W) (fun pre W=>∃p':List {x:Nat×Pl//x∈iZ R},p'.map (·.1)=pre/\Jx p' W)
   (fun s A B ⟨p',e,h⟩ hb=>⟨p',e,hJ p' A B none h ⟨hb.os,hb.tape,hb.output,hb.size,fun k hk _=>hb.block k hk⟩ (fun r e=>by cases e)⟩) ?_ W (aI b8 hW.size) Dj nl hc (hT.below hW) ⟨[],rfl,h0⟩).mono ?_
  ·rintro pre x V ⟨p',e,hj⟩ hl hx
   refine(hY p' ⟨x,hx⟩ V hj (by rw[<-e,aM]at hl;exact hl)).mono ?_;rintro r V' (⟨h1,h2,h3⟩|⟨h1,h2⟩)
   ·exact .inl ⟨h1,⟨_,by rw[bZ,e];rfl,h2⟩,h3⟩
   ·exact .inr ⟨h1,_,by rw[bZ,e];rfl,h2⟩
  ·rintro e W' ⟨hr,⟨ys,e1,p',e2,hj⟩|⟨pre,hp,p',e2,hj⟩⟩
   ·exact⟨hr,.inl ⟨p',e2.trans e1,hj⟩⟩
   ·obtain⟨k,hk,e3⟩:=hp
    exact⟨hr,.inr ⟨p',⟨k,hk,e2.trans e3⟩,hj⟩⟩
end Go.Proofs.YthmfgidbcghnfaaGreatDoor
namespace Go.Proofs.YthmfgidbcghnfaaGreatDoor
open Go.RowKit Go.Shelf
attribute [local go_sem] fS
abbrev aAI (V:World) (X:Nat) (p:Pl):Prop:=V.heap[X]? =some (.cells (plc p) 258 (0,0))
theorem kH {V V':World} {X Y:Nat} {cs:Array Value} {T:TypeId} {fr:Nat×Nat} (h:V.heap[Y]? =some (.cells cs T fr)) (k:iL X V V') (bn:Y≠X):V'.heap[Y]? =some (.cells cs T fr):=k.other h bn
theorem kQ {X:Nat} {A B:World} {cs:Array Value} {T:TypeId} {fr:Nat×Nat} (h:iL X A B) (hX:A.heap[X]? =some (.cells cs T fr)):KeepsOthers A B:=
 ⟨jU h.size.symm,fun k o hk ho=>h.other hk (fun e=>by subst e;rw[hX]at hk;cases hk;cases ho)⟩
def oZ (R:Rg Pl):Int×Pl×Bool:=match iZ R with
 |[]=>(0,(none,none),false)
 |p::_=>((p.1:Int),p.2,true)
theorem xZ (tmps:Array Value) (w:World) (X1 X2 X3:Nat) (i:Int) (p:Pl) (b:Bool) (h1:tmps.getD 2 undef=.pointer (some ⟨X1,0,none⟩)) (h2:tmps.getD 3 undef=.pointer (some ⟨X2,0,none⟩)) (h3:tmps.getD 4 undef=.pointer (some ⟨X3,0,none⟩))
  (c1:Boxed w X1 3 (.int .i64 i)) (c2:aAI w X2 p) (c3:Boxed w X3 4 (.bool b)):
  (results Tryz.f261 tmps).run Tryz.prog w=.ok (.tuple #[.int .i64 i,.agg (plc p),.bool b]) w:=by
 have l1:=c1.cell;have l3:=c3.cell;have l2:w.cell? ⟨X2,0,none⟩=some (pv p.1):=aG c2 rfl;have l4:w.cell? ⟨X2,1,none⟩=some (pv p.2):=aG c2 rfl;simp at h1 h2 h3;simp[results,Tryz.f261,go_sem,h1,h2,h3,l1,l2,l3,l4,plc]
theorem qO {o:Oper} {a:Act} {w:World} {K:Act->World->Prop} {Q:Exit->Act->World->Prop} (ty:TypeId) (x y:Operand) (ho:o.op=.store ty x y)
  (X:Nat) (v:Value) (hx:a.eval x=.pointer (some ⟨X,0,none⟩)) (hy:a.eval y=v) (h1:v.oneCell'=true) (T:TypeId) (u:Value) (hB:Boxed w X T u)
  (hi:(Tryz.prog.info? ty).map (·.size)=some 1)
  (h:∀w',Boxed w' X T v->iL X w w'->K (a.put o.dst undef) w'):o.wp Tryz.prog a w K Q:=by
 unfold Oper.wp execOp;simp only[ho,hx,hy,Instr.storeAt,Instr.sureAddr,eG,eZ,cR,lX w X 0 T ty #[u] v hB uAy hi h1];exact h _ (lY w X _ _ _ _ hB) (iI _ _ _)
theorem aSB {ops:Array Oper} {rest:List Oper} {o:Oper} {a:Act} {w:World} {Q:Exit->Act->World->Prop} {n l:Nat} (fj:o.guard=none) (ty:TypeId) (x y:Operand) (ho:o.op=.store ty x y)
  (X:Nat) (c':Array Value) (hx:a.eval x=.pointer (some ⟨X,0,none⟩)) (hy:a.eval y=.agg c') (T:TypeId) (c:Array Value) (hB:w.heap[X]? =some (.cells c T (0,0)))
  (hi:(Tryz.prog.info? ty).map (·.size)=some c'.size) (hs:c.size=c'.size) (h1:c'.all (·.oneCell')=true)
  (h:∀w',w'.heap[X]? =some (.cells c' T (0,0))->iL X w w'->wpListIn (Fence.wide.inRound l) n Tryz.prog ops Q rest (a.put o.dst undef) w'):wpListIn (Fence.wide.inRound l) n Tryz.prog ops Q (o::rest) a w:=
 uA fj (fun c' hc=>by rw[ho]at hc;cases hc) fun _ hK=>eC ty x y ho X c' hx hy T c hB hi hs h1 fun w' h1 h2=>hK _ _ (h w' h1 h2)
theorem aJs:(Tryz.prog.info? 3).map (·.size)=some 1:=by kernel_rfl
theorem aL4:(Tryz.prog.info? 4).map (·.size)=some 1:=by kernel_rfl
theorem aHi {S:Nat->Prop} (w:World) (R:Rg Pl) (c:Array Value) (h:AtR S w R c) (hT:iF w):Calls Tryz.prog 261 #[.agg c] w fun e W'=>e=.returned (.tuple #[.int .i64 (oZ R).1,.agg (plc (oZ R).2.1),.bool (oZ R).2.2])/\Below w.heap.size w W':=by
 obtain⟨v,rfl,h2⟩:=h;have jm:=iH (aOg h2.old (n₀:=w.heap.size) (fun g hg=>hg.2));obtain⟨a,n,rfl,_⟩:=h2.shape;have Gh:=iH hT;refine(dD (n:=5)).1 ?_;refine fZ Tryz.func261 rfl trivial ?_ rfl;simp only[Tryz.ntmps261,bI,aD,aK,Nat.reduceAdd,Nat.reduceSub,bT,bS,cH,bU,aT,aP];have Pv:4<w.heap.size:=aO w _ (hT 0 uAv);clear h2 hT;gi_wp2_with (refine⟨trivial,?_⟩;gi_at_call 192;refine(aEl _ _ _ _).mono ?_;rintro e w' ⟨rfl,rfl⟩)
 obtain⟨W1,Uc⟩:∃W1,w.alloc (.cells #[.int .u32 (eV R 32:Nat),.slice a (gB R 32) n] 131)=W1:=⟨_,rfl⟩
 have al:W1.heap.size=w.heap.size+1:=by rw[<-Uc];simp
 have af:Below w.heap.size w W1:=by rw[<-Uc];exact Below.newly' _ _
 rw[Uc];obtain⟨W2,o6⟩:∃W2,W1.alloc (.cells #[.int .i64 0] 3)=W2:=⟨_,rfl⟩
 have ed:W2.heap.size=w.heap.size+2:=by rw[<-o6];simp;omega
 have fl:Boxed W2 (w.heap.size+1) 3 (.int .i64 0):=by rw[<-al,<-o6];exact Boxed.new _ _ _
 have ah:Below w.heap.size w W2:=by rw[<-o6];exact af.alloc hO _
 rw[o6];obtain⟨W3,ia⟩:∃W3,W2.alloc (.cells #[.pointer none,.pointer none] 258)=W3:=⟨_,rfl⟩
 have gi:W3.heap.size=w.heap.size+3:=by rw[<-ia];simp;omega
 have Ob:aAI W3 (w.heap.size+1+1) (none,none):=by
  have h:=aC W2 (.cells #[.pointer none,.pointer none] 258);rw[ia,ed]at h;exact h
 have lf:Boxed W3 (w.heap.size+1) 3 (.int .i64 0):=by rw[<-ia];exact fl.alloc _
 have au:Below w.heap.size w W3:=by rw[<-ia];exact ah.alloc hO _
 rw[ia];obtain⟨W4,Lt⟩:∃W4,W3.alloc (.cells #[.bool false] 4)=W4:=⟨_,rfl⟩
 have Ac:W4.heap.size=w.heap.size+4:=by rw[<-Lt];simp;omega
 have Ql:aAI W4 (w.heap.size+1+1) (none,none):=by rw[<-Lt];exact((Below.newly' _ _).block _ hO).trans Ob
 have Lr:Boxed W4 (w.heap.size+1) 3 (.int .i64 0):=by rw[<-Lt];exact lf.alloc _
 have BK:Boxed W4 (w.heap.size+1+1+1) 4 (.bool false):=by rw[show w.heap.size+1+1+1=W3.heap.size by omega,<-Lt];exact Boxed.new _ _ _
 have bh:Below w.heap.size w W4:=by rw[<-Lt];exact au.alloc hO _
 rw[Lt];obtain⟨W0,Dq⟩:∃W0,W4.alloc (.cells #[.int .u32 (eV R 32:Nat),.slice a (gB R 32) n] 131)=W0:=⟨_,rfl⟩
 have s8:W0.heap.size=w.heap.size+5:=by rw[<-Dq];simp;omega
 have N6:aAI W0 (w.heap.size+1+1) (none,none):=by rw[<-Dq];exact((Below.newly' _ _).block _ hO).trans Ql
 have uj:Boxed W0 (w.heap.size+1) 3 (.int .i64 0):=by rw[<-Dq];exact Lr.alloc _
 have ib:Boxed W0 (w.heap.size+1+1+1) 4 (.bool false):=by rw[<-Dq];exact BK.alloc _
 have mf:Below w.heap.size w W0:=by rw[<-Dq];exact bh.alloc hO _
 have Bv:W0.heap[w.heap.size+1+1+1+1]? =some (.cells #[.int .u32 (eV R 32:Nat),.slice a (gB R 32) n] 131 (0,0)):=by
  rw[show w.heap.size+1+1+1+1=W4.heap.size by omega,<-Dq];exact aC _ _
 rw[Dq];clear Dq Uc o6 ia Lt al ed gi Ac af ah au bh fl lf Lr Ob Ql BK;refine wpIn_rangeFunc_ownH (F:=Fence.wide) rfl hO (gf:=231) (lb:=#[.pointer (some ⟨w.heap.size+1+1+1+1,0,none⟩)]) rfl trivial (iX Tryz.func231 uAu rfl)
  (aFG 4 hO (w.heap.size+1+1+1+1) w.heap.size R _ W0 hO hO Pv (aG Bv rfl) (aG Bv rfl) (jm.out.below mf) (Gh.out.below mf)) belowK_t (belowK_b hO) (bB _ _) (fun _=>rfl)
  (fun pre V=>(pre=[]/\Boxed V (w.heap.size+1) 3 (.int .i64 0)/\aAI V (w.heap.size+1+1) (none,none)/\Boxed V (w.heap.size+1+1+1) 4 (.bool false))/\Below w.heap.size w V)
  (fun k pre V=>(k=.ret/\∃x:Nat×Pl,pre=[x]/\Boxed V (w.heap.size+1) 3 (.int .i64 (x.1:Int))/\aAI V (w.heap.size+1+1) x.2/\Boxed V (w.heap.size+1+1+1) 4 (.bool true))/\Below w.heap.size w V)
  (OwnFrom.and (Own.from (fun s A B row hs hg hr=>⟨hs.1,qL hs.2.1 hg hr,pS hs.2.2.1 hg hr,qL hs.2.2.2 hg hr⟩) _) (ownFrom_below (aA _) hO))
  (fun k=>OwnFrom.and (Own.from (fun s A B row hs hg hr=>by obtain⟨hc,x,e1,e2,e3,e4⟩:=hs;exact⟨hc,x,e1,qL e2 hg hr,pS e3 hg hr,qL e4 hg hr⟩) _) (ownFrom_below (aA _) hO))
  ⟨⟨rfl,uj,N6,ib⟩,mf⟩
  (fun x a' V=>∃Bx,w.heap.size+4<=Bx/\aAI V Bx x.2/\a'={tmps:=#[.agg #[.int .u32 (eV R 32:Nat),.slice a (gB R 32) n],.pointer (some ⟨w.heap.size,0,none⟩),.pointer (some ⟨w.heap.size+1,0,none⟩),.pointer (some ⟨w.heap.size+1+1,0,none⟩),.pointer (some ⟨w.heap.size+1+1+1,0,none⟩),.int .i64 (x.1:Int),.pointer (some ⟨Bx,0,none⟩),undef,.agg #[.int .u32 (eV R 32:Nat),.slice a (gB R 32) n],.func (.func 231) #[] #[.pointer (some ⟨w.heap.size+1+1+1+1,0,none⟩)],.int .i64 (x.1:Int),.agg (plc x.2),undef,undef,undef],defers:=[]})
  (fun x a'=>Own.from (fun s A B row hs hg hr=>by obtain⟨Bx,h1,h2,h3⟩:=hs;exact⟨Bx,h1,pS h2 hg hr,h3⟩) _)
  ?assign ?body ?done ?stop
 case assign=>
  rintro l pre x V K ⟨⟨rfl,h2,h3,h4⟩,hB⟩ hK;have q8:=mf.size;gi_wp2_with (refine aSB rfl 258 _ _ rfl V.heap.size (plc x.2) rfl rfl 258 (plc (none,none)) (aC _ _) dN rfl (gW x.2) ?_;intro w5 h5 k5;have ay:Below V.heap.size V w5:=(Below.newly' _ _).trans (k5.below (aA _)))
  exact hK _ _ (((KeepsOthers.alloc V _).trans (kQ k5 (aC _ _))).from _) (ay.mono hB.size) ⟨⟨by trivial,(ay.block _ h2.lt).trans h2,kW ay h3,(ay.block _ h4.lt).trans h4⟩,tW hB ay⟩ ⟨V.heap.size,by have:=h4.lt;omega,h5,rfl⟩
 case body=>
  rintro l pre x a' V hl ⟨r,hr⟩ ⟨⟨rfl,h2,h3,h4⟩,hB⟩ ⟨Bx,GV,bX,rfl⟩ hlt;have H2:=iH h2;have H3:=iH h3;have H4:=iH h4;have HX:=iH bX;have fh:=iH hB;clear h2 h3 h4 bX hB uj N6 ib Bv mf hr;gi_wp2
  refine rN (S:=(fun V=>aAI V Bx x.2)) [3,4] uAu uAu (fun⟨_,_,h⟩=>h) (by first|exact HX.out|exact HX6.out) (fun ab=> ?_);refine tkA 0 12 (h:=?_);refine tyA 1 13 (hy:=aJ uAz 258 _ rfl Bx rfl (plc x.2) 258 (0,0) _ (fun w hw=>hw) Tryz.underlying258 rfl (by exact dN)) (h:=?_);(try simp only[pq]);refine tkO 2 none (h:=fun K hK=> ?_);rw[if_pos uAz];refine qO 3 _ _ rfl (w.heap.size+1) (.int .i64 (x.1:Int)) rfl rfl rfl 3 _ H2.out aJs ?_;intro w6 h6 k6;have G1:=iH h6;have G2:=iH (kH (V:=V.drew) H3.out k6 hO);have G3:Hid (Boxed w6 (w.heap.size+1+1+1) 4 (.bool false)):=kH (V:=V.drew) H4.out k6 hO;have HX6:=iH (kH (V:=V.drew) HX.out k6 hO);have ek:=iH ((Below.drewMany fh.out 1).trans (k6.below (B:=w.heap.size) hO));have np:=iH ((aAZ (aY V)).trans (kQ (A:=V.drew) k6 H2.out));clear h6 k6;refine hK.out _ _ (by first|exact HX.out|exact HX6.out) (fun ab=> ?_);clear hK K;(try simp only[pq]);refine tkU 3 none (h:=fun K hK=> ?_);rw[if_pos uAz];refine eC 258 _ _ rfl (w.heap.size+1+1) (plc x.2) rfl rfl 258 _ G2.out dN rfl (gW x.2) ?_;intro w7 h7 k7;have G4:=iH h7;have G5:Hid (Boxed w7 (w.heap.size+1) 3 (.int .i64 (x.1:Int))):=kH G1.out k7 hO;have G6:Hid (Boxed w7 (w.heap.size+1+1+1) 4 (.bool false)):=kH G3.out k7 hO;have yc:=iH (ek.out.trans (k7.below (B:=w.heap.size) hO));have W6:=iH (np.out.trans (kQ k7 G2.out));clear h7 k7;refine hK.out _ _ ?_;clear hK K;(try simp only[pq]);refine tkU 4 none (h:=fun K hK=> ?_);rw[if_pos uAz];refine qO 4 _ _ rfl (w.heap.size+1+1+1) (.bool true) rfl rfl rfl 4 _ G6.out aL4 ?_;intro w8 h8 k8;refine hK.out _ _ ?_;clear hK K;(try simp only[pq]);refine bJ uAu ?_ _;gi_wp2
  exact⟨(W6.out.trans (kQ k8 G6.out)).from _,⟨rfl,x,rfl,kH G5.out k8 hO,kH G4.out k8 hO,h8⟩,yc.out.trans (k8.below (B:=w.heap.size) hO)⟩
 case done=>
  rintro D ys V hD rfl ⟨⟨bn,h2,h3,h4⟩,hB⟩ hK;have H2:=iH h2;have H3:=iH h3;have H4:=iH h4;have fh:=iH hB;have o7:=iH hK;have W7:=iH hD;clear h2 h3 h4 hB hK uj N6 ib Bv mf hD;gi_wp2
  refine iW.2 ?_;refine wp_region_noPanic ?_;have W8:Hid (w.heap.size+1+1+1<V.heap.size):=H4.out.lt;obtain⟨Vd,Qm⟩:∃Vd,(V.alloc (.cells #[.pointer none,.pointer none] 258)).drew=Vd:=⟨_,rfl⟩
  have sh:Below V.heap.size V Vd:=by rw[<-Qm];exact Below.drewMany (Below.newly' V _) 1
  have W9:Hid (aAI Vd V.heap.size (none,none)):=by show _=_;rw[<-Qm];exact aC V _
  have BL:Hid (Boxed Vd (w.heap.size+1) 3 (.int .i64 0)):=(sh.block _ H2.out.lt).trans H2.out;have GW:Hid (aAI Vd (w.heap.size+1+1) (none,none)):=kW sh H3.out;have GX:Hid (Boxed Vd (w.heap.size+1+1+1) 4 (.bool false)):=(sh.block _ H4.out.lt).trans H4.out;have GY:=iH (tW fh.out sh);have GZ:=iH (aAZ sh);clear sh;refine bO (S:=(fun V'=>aAI V' V.heap.size (none,none))) [2,3] uAu uSw (fun ab=> ?_);rw[Qm];refine tyA 0 14 (hy:=aJ uAz 258 _ rfl V.heap.size rfl (plc (none,none)) 258 (0,0) _ (fun w hw=>hw) Tryz.underlying258 rfl (by exact dN)) (h:=?_);(try simp only[pq]);refine tkO 1 none (h:=fun K hK=> ?_);rw[if_pos uAz];refine qO 3 _ _ rfl (w.heap.size+1) (.int .i64 0) rfl rfl rfl 3 _ BL.out aJs ?_;intro w6 h6 k6;have G1:=iH h6;have G2:=iH (kH (V:=Vd) GW.out k6 hO);have G3:Hid (Boxed w6 (w.heap.size+1+1+1) 4 (.bool false)):=kH (V:=Vd) GX.out k6 hO;have HX6:=iH (kH (V:=Vd) W9.out k6 (by have:=W8.out;omega));have ek:=iH (GY.out.trans (k6.below (B:=w.heap.size) hO));have np:=iH (GZ.out.trans (kQ (A:=Vd) k6 BL.out));clear h6 k6;refine hK.out _ _ uSw (fun ab=> ?_);clear hK K;(try simp only[pq]);refine tkU 2 none (h:=fun K hK=> ?_);rw[if_pos uAz];refine eC 258 _ _ rfl (w.heap.size+1+1) (plc (none,none)) rfl rfl 258 _ G2.out dN rfl (gW (none,none)) ?_;intro w7 h7 k7;have G4:=iH h7;have G5:Hid (Boxed w7 (w.heap.size+1) 3 (.int .i64 0)):=kH G1.out k7 hO;have G6:Hid (Boxed w7 (w.heap.size+1+1+1) 4 (.bool false)):=kH G3.out k7 hO;have yc:=iH (ek.out.trans (k7.below (B:=w.heap.size) hO));have W6:=iH (np.out.trans (kQ k7 G2.out));clear h7 k7;refine hK.out _ _ ?_;clear hK K;(try simp only[pq]);refine tkU 3 none (h:=fun K hK=> ?_);rw[if_pos uAz]
  refine qO 4 _ _ rfl (w.heap.size+1+1+1) (.bool false) rfl rfl rfl 4 _ G6.out aL4 ?_;intro w8 h8 k8;refine hK.out _ _ ?_;clear hK K;(try simp only[pq]);refine bJ uAu ?_ _;refine NoPanic.normal ?_;gi_wp2
  have K8:=(W6.out.trans (kQ k8 G6.out)).same D _ o7.out rfl;have q2:=qL (kH G5.out k8 hO) (fC _ D (.deferred none)) (fun r e=>by cases e;exact⟨_,K8,rfl⟩);have q3:=pS (kH G4.out k8 hO) (fC _ D (.deferred none)) (fun r e=>by cases e;exact⟨_,K8,rfl⟩);have q4:=qL h8 (fC _ D (.deferred none)) (fun r e=>by cases e;exact⟨_,K8,rfl⟩);have hf:oZ R=(0,(none,none),false):=by unfold oZ;rw[bn]
  refine⟨by simp,.inl ⟨_,_,rfl,lG K8,?_⟩⟩;refine⟨.tuple #[.int .i64 0,.agg (plc (none,none)),.bool false],xZ _ _ _ _ _ _ _ _ rfl rfl rfl q2 q3 q4,by rw[hf],(yc.out.trans (k8.below (B:=w.heap.size) hO)).trans (belowK_b (w:=w) (aA _) _ D _ _ (by have:=W7.out;omega) K8 rfl rfl)⟩
 case stop=>
  rintro D k pre V hD ⟨m,hm,rfl⟩ ⟨⟨rfl,x,e1,e2,e3,e4⟩,hB⟩ hK;gi_wp2
  have q2:=qL e2 (fC _ D (.deferred none)) (fun r e=>by cases e;exact⟨_,hK,rfl⟩);have q3:=pS e3 (fC _ D (.deferred none)) (fun r e=>by cases e;exact⟨_,hK,rfl⟩);have q4:=qL e4 (fC _ D (.deferred none)) (fun r e=>by cases e;exact⟨_,hK,rfl⟩);have hf:oZ R=((x.1:Int),x.2,true):=by
   unfold oZ;cases hr:iZ R with
   |nil=>rw[hr]at e1;simp at e1
   |cons p t=>
    rw[hr]at e1;cases m with
    |zero=>simp at e1
    |succ m=>
     rw[dC]at e1;obtain rfl:p=x:=(List.cons.inj e1).1;rfl
  refine⟨by simp,.inl ⟨_,_,rfl,lG hK,?_⟩⟩;refine⟨.tuple #[.int .i64 (x.1:Int),.agg (plc x.2),.bool true],xZ _ _ _ _ _ _ _ _ rfl rfl rfl q2 q3 q4,by rw[hf],hB.trans (belowK_b (w:=w) (aA _) _ D _ _ hO hK rfl rfl)⟩
end Go.Proofs.YthmfgidbcghnfaaGreatDoor
