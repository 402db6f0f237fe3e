import Derived.Test.YtengibnpebfblaaGreatDoorQ0
import Derived.Test.YtengibnpebfblaaGreatDoorQ21
import Derived.Test.YtengibnpebfblaaGreatDoorQ23
set_option maxRecDepth 1000000
set_option maxHeartbeats 8000000
set_option linter.unusedSimpArgs false
namespace Go.Proofs.YtengibnpebfblaaGreatDoor
open Go.RowKit
theorem aF0 (s:ByteArray):Lib.strCells s=bv (kb s):=by
 first|rfl|simp[Lib.strCells,bv,kb]
section
variable {B : Nat} {v : Value} {l : List UInt8} {w w' : World}
theorem Buf.own (h:Buf B v l w):v.ownBlock=none\/∃g cur fz,v.ownBlock=some g/\B<=g/\w.heap[g]? =some (.cells cur 5 fz):=by
 obtain⟨⟨_,h2⟩,_⟩:=h;exact Ah6
theorem Buf.kw {Ts:TypeId->Prop} {n₀ Y:Nat} (h:Buf B v l w) (hg:w.grownBy w' v.ownBlock) (hn:n₀<=B) (he:Ts 5):KW Ts n₀ Y w w':=by
 rcases h.own with h1|⟨g,cur,fz,h1,h2,h3⟩
 ·rw[h1]at hg
  exact KW.below ⟨hg.os,hg.tape,hg.output,hg.size,fun k hk=>hg.block k hk uBu⟩ (aG hn h.2)
 ·exact Ak9
theorem Buf.ikw {Ts:TypeId->Prop} {Y:Nat} (h:Buf B v l w) (k:IKW Ts Y w w') (he:Ts 5):Buf B v l w':=by
 obtain⟨⟨h1,h2⟩,h3⟩:=h;refine⟨⟨h1,h2.imp_right ?_⟩,aG h3 k.1⟩;exact Ai7
theorem Buf.grown {row:Option Nat} (h:Buf B v l w) (hg:w.grownBy w' row) (hne:v.ownBlock=none\/v.ownBlock≠row):Buf B v l w':=⟨h.1.kept hg hne,aG h.2 hg.size⟩
theorem Buf.keepsT (h:Buf B v l w) (hg:w.grownBy w' v.ownBlock) {Y:Nat} {c:Array Value} {T:TypeId} {fr:Nat×Nat} (hT:5≠T) (ho:w.heap[Y]? =some (.cells c T fr)):w'.heap[Y]? =some (.cells c T fr):=by
 exact Ad9
theorem Buf.ne_box {X:Nat} {T:TypeId} {u:Value} (h:Buf B v l w) (hb:Boxed w X T u) (hT:5≠T):v.ownBlock=none\/v.ownBlock≠some X:=by
 exact Ad5
end
theorem aNc {o:Oper} {a:Act} {K:Act->World->Prop} {Q:Exit->Act->World->Prop} {w:World} (s x:Operand)
  (ho:o.op=.call {callee:=.builtin .append,args:=#[s,x],argTypes:=#[129,129]})
  {B:Nat} {v:Value} {l:List UInt8} (hs:a.eval s=v) (hb:Buf B v l w) (r:List UInt8) (ad:Addr) (c:Nat) (hx:a.eval x=.slice (some ad) r.length c)
  (hc:∀j u,(bv r)[j]? =some u->w.cell? (ad.add j)=some u) (hlen:l.length+r.length<=140737488355328)
  (h:∀v' w',Buf B v' (l++r) w'->w.grownBy w' v.ownBlock->K (a.put o.dst v') w'):o.wp Tryz.prog a w K Q:=by
 obtain⟨i,hi,hz,h1,h2⟩:=dV aAR;obtain⟨v',w',hr,g1,g2,_⟩:=aCj (P:=Tryz.prog) w B 129 o.type 5 i (.int .u8 0) 1 1 Tryz.underlying129 hi hz h1 h2 rfl uAv v l.length (bv l) hb.1 ad r.length c (bv r) (by rw[aHd];omega) hc aLI
  uCw uAu hb.2
 unfold Oper.wp execOp;simp only[ho,resolve,invoke,builtin,fF,fR,cS,iA,cG,iL,hs,hx,hr];exact h v' w' ⟨by rw[aD,aHe];exact g1,aG hb.2 g2.size⟩ g2
theorem zL {ops:Array Oper} {rest:List Oper} {o:Oper} {a:Act} {Q:Exit->Act->World->Prop} {w:World} (hgd:o.guard=none) (s x:Operand)
  (ho:o.op=.call {callee:=.builtin .append,args:=#[s,x],argTypes:=#[129,129]})
  {B:Nat} {v:Value} {l:List UInt8} (hs:a.eval s=v) (hb:Buf B v l w) (r:List UInt8) (cs:Array Value) (hcs:cs=(bv r).toArray) (n c:Nat) (hn:n=r.length) (hx:a.eval x=.slice (some ⟨w.heap.size,0,none⟩) n c)
  (hlen:l.length+r.length<=140737488355328)
  (h:∀v' w',Buf B v' (l++r) w'->(w.alloc (.cells cs 5)).grownBy w' v.ownBlock->wpList Tryz.prog ops Q rest (a.put o.dst v') w'):wpList Tryz.prog ops Q (o::rest) a (w.alloc (.cells cs 5)):=by
 subst hn;exact cW hgd fun _ hK=>aNc s x ho hs (hb.alloc _) r ⟨w.heap.size,0,none⟩ c hx (aD4 w r cs hcs) hlen fun v' w' h1 h2=>hK _ _ (h v' w' h1 h2)
theorem aEu {o:Oper} {a:Act} {K:Act->World->Prop} {Q:Exit->Act->World->Prop} {w:World} (s x:Operand)
  (ho:o.op=.call {callee:=.builtin .append,args:=#[s,x],argTypes:=#[129,9]})
  {B:Nat} {v:Value} {l:List UInt8} (hs:a.eval s=v) (hb:Buf B v l w) (t:ByteArray) (hx:a.eval x=.string t) (hlen:l.length+t.size<=140737488355328)
  (h:∀v' w',Buf B v' (l++kb t) w'->w.grownBy w' v.ownBlock->K (a.put o.dst v') w'):o.wp Tryz.prog a w K Q:=by
 obtain⟨i,hi,hz,h1,h2⟩:=dV aAR;obtain⟨v',w',hr,g1,g2,_⟩:=Lib.run_append_own_stringF (P:=Tryz.prog) w B 129 9 o.type 5 i Tryz.underlying129 Tryz.underlying9 hi hz h1 h2 v l.length (bv l) hb.1 t uCw hlen hb.2;unfold Oper.wp execOp;simp only[ho,resolve,invoke,builtin,fF,fR,cS,iA,cG,iL,hs,hx,hr];refine h v' w' ⟨?_,aG hb.2 g2.size⟩ g2;have e:(kb t).length=t.size:=bB;rw[aD,aHe,e,<-aF0];exact g1
end Go.Proofs.YtengibnpebfblaaGreatDoor
namespace Go.Proofs.YtengibnpebfblaaGreatDoor
open Go.RowKit
def GotV (Kd:Nat->Prop) (n:Nat) (V:World) (v:Value):Option (List Cel)->Prop
 |some l=>∃c,v=.agg c/\dS Kd V c l
 |none=>v=.int .i64 (n:Int)
theorem aO4 (Kd:Nat->Prop) (n:Nat):∀A B v x,GotV Kd n A v x->Below A.heap.size A B->GotV Kd n B v x
 |_,_,_,some _,⟨c,h1,h2⟩,hb=>⟨c,h1,h2.later hb⟩
 |_,_,_,none,h,_=>h
end Go.Proofs.YtengibnpebfblaaGreatDoor
namespace Go.Proofs.YtengibnpebfblaaGreatDoor
open Go.RowKit Go.Shelf
def enS (k:ByteArray):List Value:=[.string k]
theorem aO9 (ks:List ByteArray):∀(j:Nat),(en enS ks)[j]? =(ks[j]?).map fun k=>Value.string k:=by
 induction ks with
 |nil=>intro j;simp[en]
 |cons q qs ih=>
  intro j;cases j with
  |zero=>simp[en,enS]
  |succ j=>simpa[en,enS]using ih j
theorem uK:(Tryz.prog.info? 9).map (fun i=>(i.zero,i.size,i.bytes))=some (some (.string ⟨#[]⟩),1,16):=by kernel_rfl
def aAg (S:Nat->Prop) (w:World) (v:Value) (ks:List ByteArray):Prop:=bZ S w 1 v (en enS ks) ks.length
def tX (B:Nat) (v:Value) (ps:List ByteArray) (w:World):Prop:=w.ownsRow B 9 1 v ps.length (en enS ps)/\B<=w.heap.size
section
variable {B : Nat} {v : Value} {ps : List ByteArray} {w w1 : World}
theorem tX.nil (h:B<=w.heap.size):tX B (.slice none 0 0) [] w:=⟨rI _ _ _ _,h⟩
theorem tX.grown {row:Option Nat} (h:tX B v ps w) (hg:w.grownBy w1 row) (hne:v.ownBlock=none\/v.ownBlock≠row):tX B v ps w1:=⟨h.1.kept hg hne,aG h.2 hg.size⟩
theorem tX.later (h:tX B v ps w) (hb:Below w.heap.size w w1):tX B v ps w1:=h.grown (row:=none) ⟨hb.os,hb.tape,hb.output,hb.size,fun k hk _=>hb.block k hk⟩ uGx
theorem tX.low {B':Nat} (h:tX B v ps w) (hB:B'<=B):tX B' v ps w:=by
 exact Ac5
theorem tX.len (h:tX B v ps w):∃a c,v=.slice a ps.length c:=by
 exact Ad3
theorem tX.cut (h:tX B v ps w):bZ (fun _=>True) w 1 v (en enS ps) ps.length:=(oT h.1).weak fun _ _=>trivial
theorem aKa {L:Nat} {cs:Array Value} {T:TypeId} {fr:Nat×Nat} (h:tX B v ps w) (hb:w.heap[L]? =some (.cells cs T fr)) (hT:T≠9):v.ownBlock≠some L:=by
 exact Ae7
theorem tX.only {L:Nat} {cs:Array Value} {T:TypeId} {fr:Nat×Nat} (h:tX B v ps w) (k:jK L w w1) (hb:w.heap[L]? =some (.cells cs T fr)) (hT:T≠9):tX B v ps w1:=h.grown k.by_ (.inr (aKa h hb hT))
end
section
variable {B : Nat} {v : Value} {ks : List ByteArray} {w w1 : World} {S S' : Nat → Prop}
theorem aAg.later (h:aAg S w v ks) (hb:Below w.heap.size w w1):aAg S w1 v ks:=bZ.later h hb
theorem aAg.any (h:aAg S w v ks):aAg (fun _=>True) w v ks:=bZ.weak h fun _ _=>trivial
theorem aAg.shape (h:aAg S w v ks):∃a c,v=.slice a ks.length c/\ks.length<=c:=bZ.shape h
theorem aAg.kept {row:Option Nat} (h:aAg S w v ks) (hg:w.grownBy w1 row) (hr:∀X,row=some X->¬S X):aAg S w1 v ks:=bZ.kept h hg hr
theorem aAg.cell (h:aAg S w v ks) {j:Nat} (hj:j<ks.length):∃g o c,v=.slice (some ⟨g,o,none⟩) ks.length c/\S g/\w.cell? ⟨g,o+j,none⟩=some (.string ks[j]):=by
 obtain⟨g,o,c,h1,_,hS,_,h2⟩:=bZ.pos h uAu;exact⟨g,o,c,h1,hS,h2 j _ (by rw[aO9,List.getElem?_eq_getElem hj];rfl)⟩
end
end Go.Proofs.YtengibnpebfblaaGreatDoor
namespace Go.Proofs.YtengibnpebfblaaGreatDoor
open Go.RowKit
theorem oG {w:World} (a:Tr):∀v,TrV w a v->pE a:=by
 induction a using fS with
 |h k n t ks xs ih=>
  intro v hv;obtain⟨kv,xv,_,_,_,hn,_,_,_,_,_,_,_,_,h⟩:=hv.open';refine nE.2 ⟨hn,fun x hx=> ?_⟩;obtain⟨j,hj,rfl⟩:=lB.1 hx;obtain⟨cs,_,_,h3⟩:=h j hj;exact ih _ hx _ h3
def aDs (w:World) (rb:Nat):Prop:=∃(k1 k2 k3:IntKind) (x1 x2 x3:Int) (T:TypeId) (fr:Nat×Nat),w.heap[rb]? =some (.cells #[.int k1 x1,.int k2 x2,.int k3 x3] T fr)
theorem aDs.no {w:World} {rb o:Nat} {t:ByteArray} (h:aDs w rb):w.cell? ⟨rb,o,none⟩≠some (.string t):=by
 obtain⟨k1,k2,k3,x1,x2,x3,T,fr,h⟩:=h;intro e
 match o,e with
 |0,e=>simp[World.cell?,h]at e
 |1,e=>simp[World.cell?,h]at e
 |2,e=>simp[World.cell?,h]at e
 |o+3,e=>simp[World.cell?,h]at e
theorem aAc {w w':World} {row:Option Nat} {b o:Nat} {u:Value} (hg:w.grownBy w' row) (hb:some b≠row) (h:w.cell? ⟨b,o,none⟩=some u):w'.cell? ⟨b,o,none⟩=some u:=
 (World.cell?_of_block (a:=⟨b,o,none⟩) (hg.block b (aM w _ h) hb)).trans h
theorem aMk {w w':World} {rb:Nat} (hg:w.grownBy w' (some rb)) (hr:aDs w rb) (a:Tr):∀v,TrV w a v->TrV w' a v:=by
 induction a using fS with
 |h k n t ks xs ih=>
  intro v hv;rw[TrV]at hv ⊢;obtain⟨kv,xv,h1,h2,h3,h4,⟨ka,kc,kb',ko,k1,k2,k3,k4⟩,ad,cap,b,o,h6,h7,h8,h9⟩:=hv;refine⟨kv,xv,h1,h2,h3,h4,⟨ka,kc,kb',ko,k1,k2,fun j hj=> ?_,k4⟩,ad,cap,b,o,h6,h7,h8,zU fun j hj=> ?_⟩
  ·have hc:=k3 j hj
   exact aAc hg (fun e=>by cases e;exact hr.no hc) hc
  ·obtain⟨cs,c1,c2,c3⟩:=aDM h9 hj
   refine⟨cs,c1,fun i u hu=>aAc hg (fun e=> ?_) (c2 i u hu),ih _ (aO hj) _ c3⟩;cases e
   obtain⟨k',n',t',pa,pl,pc,qa,ql,qc,rfl⟩:=c3.cells;exact hr.no (c2 2 (.string t') rfl)
theorem TrV.but {w w':World} {rb:Nat} {a:Tr} {v:Value} (h:TrV w a v) (hg:w.grownBy w' (some rb)) (hr:aDs w rb):TrV w' a v:=aMk hg hr a v h
theorem cJ {A B C:World} {row:Option Nat} (h:A.grownBy B row) (k:B.grownBy C row):A.grownBy C row:=
 ⟨k.os.trans h.os,k.tape.trans h.tape,k.output.trans h.output,aG h.size k.size,fun i hi hne=>(k.block i (cQ hi h.size) hne).trans (h.block i hi hne)⟩
theorem dO {A B:World} (h:Below A.heap.size A B) (row:Option Nat):A.grownBy B row:=⟨h.os,h.tape,h.output,h.size,fun i hi _=>h.block i hi⟩
theorem aGX {S:Nat->Prop} {s:Nat} {n:Int} {L:List Ent} {c:Array Value} (w:World) (h:eQ S w s n L c):Calls Tryz.prog 90 #[.agg c] w fun r w'=>r=.returned (.int .i64 (L.length:Int))/\Below w.heap.size w w':=by
 obtain⟨bb,a1,n1,c1,a2,n2,c2,rfl,_⟩:=h;exact aO1 w s n L.length bb a1 n1 c1 a2 n2 c2
theorem aMw {S:Nat->Prop} {c:Array Value} {l:List Cel} (w:World) (h:dS S w c l):Calls Tryz.prog 82 #[.agg c] w fun e w'=>e=.returned (.int .i64 (l.length:Int))/\Below w.heap.size w w':=
 (aDR w h).mono fun _ _ ⟨h1,h2⟩=>⟨h1,by rw[h2];exact Below.newly' _ _⟩
theorem qG {w w':World} {b o:Nat} {cs:List Value} (h:w.rangeAt b o cs) (hb:Below w.heap.size w w'):w'.rangeAt b o cs:=dB h hb
theorem gS {w w':World} {a:Addr} {v:Value} (h:w.cell? a=some v) (hb:Below w.heap.size w w'):w'.cell? a=some v:=(hb.cell (aM w _ h)).trans h
theorem aNx {S:Nat->Prop} (w:World) (a:Tr) (x:Cel) (ha:dW a) (hv:VAt S w a x):Calls Tryz.prog 62 #[.agg (aX x)] w fun r w'=>r=.returned (.int .i64 ((a.xs.length:Nat):Int))/\Below w.heap.size w w':=by
 obtain⟨w1,hw1⟩:∃w1,w.alloc (.cells (aX x) 35)=w1:=⟨_,rfl⟩
 obtain⟨hb1,hx1,hs1⟩:=eA hw1;have cp:w1.cell? ⟨w.heap.size,3,none⟩=some (.pointer x.p):=aK hx1 rfl;have HB1:=iH hb1;by_cases h3:a.k<=3
 ·have hp:=hv.leaf h3
  rw[(ha.leaf h3).2];rw[hp]at cp;clear hx1 hb1 hs1 hv ha hp;go_enter Tryz.func62,Tryz.ntmps62;exact Ag9
 ·obtain⟨b,l,hp,_,hvl,rc,mc,d,fr,s,n,h1,_,h3',h4,h5⟩:=(hv.later hb1).parts uAu
  rw[hp]at cp;obtain⟨e1,e2,e3⟩:=aJ4 ha (fG hvl) uAu;have HL:=iH (fun W (hb:Below w1.heap.size w1 W)=>aMw W (h3'.later hb));have HM:=iH (fun W (hb:Below w1.heap.size w1 W)=>aGX W (h4.later hb));have HC:=iH (And.intro cp (And.intro (aA7 h3'.size h1) (oV h3'.size h4.size h1)));have HZ:=iH (And.intro h3'.size h4.size);rw[<-e1];obtain⟨p,hp'⟩:∃p,p=(wT a.k l).length:=⟨_,rfl⟩
  obtain⟨q,hq'⟩:∃q,q=(pC a.k a.ks a.xs l).length:=⟨_,rfl⟩
  rw[<-hp']at HL e2 ⊢;rw[<-hq']at HM e3 ⊢;have HPQ:Hid (IntKind.i64.wrap ((p:Int)+(q:Int))=((p+q:Nat):Int)):=by show _=_;rw[gE]<;>omega
  clear hx1 hb1 hs1 hv ha hp h1 h3' h4 h5 hp' hq' e1 e2 e3 hvl;go_enter Tryz.func62,Tryz.ntmps62;go_upto_region 1 with fail
  clear hw1;go_upto_region 3 with fail
  clear cp;have HKS:Hid (∀V,Below w1.heap.size w1 V->V.cell? ⟨w.heap.size,3,none⟩=some (.pointer (some ⟨b,0,none⟩))/\V.rangeAt b 0 rc.toList/\V.rangeAt b 4 mc.toList):=fun V hV=>⟨gS HC.out.1 hV,qG HC.out.2.1 hV,qG HC.out.2.2 hV⟩
  have HW:Hid (Below w1.heap.size w1 w1.drew):=bE w1;refine bL (S:=(fun V=>V.cell? ⟨w.heap.size,3,none⟩=some (.pointer (some ⟨b,0,none⟩))/\V.rangeAt b 0 rc.toList/\V.rangeAt b 4 mc.toList)) [] hO uAw (fun hHeld=> ?_);refine tkA 0 6 (h:=?_);refine tkA 1 7 (h:=?_);(try simp only[pq]);refine tkA 2 8 (h:=?_);refine tkA 3 9 (h:=?_);(try simp only[pq]);refine tyA 4 10 (hy:=bT uAz 88 _ rfl b 0 rfl rc _ (fun w hw=>hw.2.1) Tryz.underlying88 rfl (by rw[HZ.out.1];exact eL)) (h:=?_);refine tkA 6 12 (h:=?_);(try simp only[pq]);refine tkA 7 13 (h:=?_);refine tkA 8 14 (h:=?_);(try simp only[pq]);refine tkA 9 15 (h:=?_);refine tyA 10 16 (hy:=bT uAz 98 _ rfl b 4 rfl mc _ (fun w hw=>hw.2.2) Tryz.underlying98 rfl uMv) (h:=?_);(try simp only[pq]);refine tkO 5 (some 11) (h:=fun K hK=> ?_);go_simp;go_at_call 82;(with_reducible refine(HL.out _ uBy).mono ?_);rintro r w3 ⟨rfl,hb⟩;replace HW:=iH (tW HW.out hb);clear hb;dsimp only;refine hK.out _ _ uAw (fun hHeld=> ?_);clear hK K;(try simp only[pq]);refine tkO 11 (some 17) (h:=fun K hK=> ?_);go_simp;go_at_call 90;(with_reducible refine(HM.out _ uBy).mono ?_);rintro r w4 ⟨rfl,hb⟩;replace HW:=iH (tW HW.out hb);clear hb;dsimp only;refine hK.out _ _ uAw (fun hHeld=> ?_);clear hK K;(try simp only[pq]);refine tkA 12 18 (h:=?_);refine tkA 13 2 (h:=?_);(try simp only[pq]);refine bK hO ?_ _;clear hHeld;go_wp2_with fail
  go_ret;exact⟨by show _=Ending.returned (.int .i64 ((p+q:Nat):Int));rw[<-HPQ.out];rfl,tW HB1.out HW.out⟩
def aBu (a:Tr) (i:Int) (u:ByteArray):Tr:=match atT a i u with|none=>iE|some j=>(a.xs[j]?).getD iE
theorem aME {S:Nat->Prop} {w:World} {a:Tr} {l:List Cel} (h:gC S w a.xs l) (i:Int) (u:ByteArray):VAt S w (aBu a i u) (((atT a i u).bind fun j=>l[j]?).getD gT):=by
 unfold aBu;cases e:atT a i u with
 |none=>exact mI _ _
 |some j=>
  rw[aAB];show VAt S w ((a.xs[j]?).getD iE) _;cases e2:l[j]? with
  |none=>
   rw[List.getElem?_eq_none (by have:=List.getElem?_eq_none_iff.1 e2;rw[fG h]at this;exact this)];exact mI _ _
  |some c=>
   obtain⟨z,hz,hv⟩:=aB8 h e2;rw[hz];exact hv
theorem aNf {S:Nat->Prop} {w:World} {a:Tr} {l:List Cel} (ha:dW a) (h:gC S w a.xs l) (i:Int) (u:ByteArray):((atT a i u).bind fun j=>l[j]?).isSome=(atT a i u).isSome:=by
 cases e:atT a i u with
 |none=>rfl
 |some j=>
  have hj:=at_lt ha.1.1 e;rw[aAB,List.getElem?_eq_getElem (by rw[fG h];exact hj)];rfl
theorem va_at {S:Nat->Prop} (w:World) (a:Tr) (x:Cel) (b:Nat) (ha:dW a) (hv:VAt S w a x) (hp:x.p=some ⟨b,0,none⟩) (s i:Int) (u:ByteArray) (hs:xQ a.k s=0) (hu:u.size<=9223372036854775800):
  Calls Tryz.prog 64 #[.pointer (some ⟨b,0,none⟩),.agg #[.int .i64 s,.int .i64 i,.string u]] w fun r w'=>∃y,r=.returned (.tuple #[.agg (aX y),.bool (atT a i u).isSome])/\VAt S w' (aBu a i u) y/\Below w.heap.size w w':=by
 obtain⟨w1,hw1⟩:∃w1,(w.alloc (.cells #[.int .i64 s,.int .i64 i,.string u] 67)).alloc (.cells #[.int .i64 0,.int .i64 0,.string ⟨#[]⟩,.pointer none] 35)=w1:=⟨_,rfl⟩
 obtain⟨hb1,hx1,hy1,hs1⟩:=eR hw1;have h4:4<=a.k:=by rcases zE hs with⟨_,h⟩|⟨_,h⟩|⟨_,h⟩<;>omega
 obtain⟨b',l,hp',_,hvl,rc,mc,d,fr,sd,n,h1,hsd,hr,hm,h5⟩:=hv.parts h4;obtain rfl:b=b':=by rw[hp]at hp';simpa using hp'
 have hY:=aME hvl i u;have hB:=aNf ha hvl i u;have hZ:rc.size=4/\mc.size=6:=⟨hr.size,hm.size⟩
 have hlen:=fG hvl;have hl6:=ha.len;replace h1:=kW hb1 h1;have cs:w1.cell? ⟨w.heap.size,0,none⟩=some (.int .i64 s):=aK hx1 rfl;have HC:=iH (And.intro (show w1.cell? ⟨w.heap.size,1,none⟩=some (.int .i64 i)from aK hx1 rfl) (And.intro (show w1.cell? ⟨w.heap.size,2,none⟩=some (.string u)from aK hx1 rfl) (And.intro (aA7 hZ.1 h1) (oV hZ.1 hZ.2 h1))));obtain⟨y,hy⟩:∃y,y=((atT a i u).bind fun j=>l[j]?).getD gT:=⟨_,rfl⟩
 obtain⟨is,his⟩:∃is,is=(atT a i u).isSome:=⟨_,rfl⟩
 have HG:Hid (s=0->∀W,Below w1.heap.size w1 W->Calls Tryz.prog 91 #[.agg rc,.int .i64 i] W fun r W'=>r=.returned (.tuple #[.agg (aX y),.bool is])/\Below W.heap.size W W'):=fun h0 W hW=>by
  have h4':a.k=4:=by rcases zE hs with⟨_,h⟩|⟨h,_⟩|⟨h,_⟩<;>omega
  have hr':dS S W rc l:=by have:=hr.later (tW hb1 hW);rw[wT,if_pos h4']at this;exact this
  have hat:atT a i u=if 0<=i/\i<l.length then some i.toNat else none:=by unfold atT;rw[if_pos h4',hlen]
  have:=aNH W hr' i uAu;have e1:(if 0<=i/\i<(l.length:Int)then l.getD i.toNat gT else gT)=y:=by
   rw[hy,hat];split
   ·rw[aAB,List.getD_eq_getElem?_getD]
   ·rfl
  have e2:decide (0<=i/\i<(l.length:Int))=is:=by
   rw[his,hat];split
   ·rename_i h;rw[lY h];rfl
   ·rename_i h;rw[fA h];rfl
  rw[e1,e2]at this;exact this
 have HGM:Hid (s≠0->∀W,Below w1.heap.size w1 W->Calls Tryz.prog 92 #[.agg mc,.string u] W fun r W'=>r=.returned (.tuple #[.agg (aX y),.bool is])/\Below W.heap.size W W'):=fun h0 W hW=>by
  have h56:a.k=5\/a.k=6:=by rcases zE hs with⟨h,_⟩|⟨_,h⟩|⟨_,h⟩<;>omega
  obtain⟨k1,k2,_⟩:=ha.mkeys h56;have hl:=xZ k2 (k1.trans hlen.symm);have:=aO2 W sd hsd n _ mc u hu (hm.later (tW hb1 hW)) hl (by rw[pC,dN];omega);rw[pC,aMX k2 (k1.trans hlen.symm),<-aOe h56 i,<-hy,hB,<-his]at this;exact this
 rw[<-hy]at hY;rw[<-his];have HY:=iH hY;have HY1:=iH hy1;have HB1:=iH hb1;have HS1:=iH hs1;have HZ:=iH hZ;by_cases h0:s=0
 replace HG:=iH (HG.out h0)
 subst h0;clear hs hx1 hy1 hb1 hs1 ha hv hp hp' hvl h1 hsd hr hm h5 hY hB hZ hlen hl6 hy his HGM h4 hu;go_enter Tryz.func64,Tryz.ntmps64;go_upto_region 1 with fail
 clear hw1;go_upto_region 2 with fail
 clear cs;have HKS:Hid (∀V,Below w1.heap.size w1 V->V.cell? ⟨w.heap.size,1,none⟩=some (.int .i64 i)/\V.rangeAt b 0 rc.toList):=fun V hV=>⟨gS HC.out.1 hV,qG HC.out.2.2.1 hV⟩
 have HW:Hid (Below w1.heap.size w1 w1.drew):=bE w1;refine bL (S:=(fun V=>V.cell? ⟨w.heap.size,1,none⟩=some (.int .i64 i)/\V.rangeAt b 0 rc.toList)) [9,10] hO uAw (fun hHeld=> ?_);refine tkA 0 9 (h:=?_);refine tkA 1 10 (h:=?_);(try simp only[pq]);refine tkA 2 11 (h:=?_);refine tyA 3 12 (hy:=bT uAz 88 _ rfl b 0 rfl rc _ (fun w hw=>hw.2) Tryz.underlying88 rfl (by rw[HZ.out.1];exact eL)) (h:=?_);(try simp only[pq]);refine tkA 4 13 (h:=?_);refine tkA 5 14 (h:=?_);(try simp only[pq]);refine tkO 6 (some 15) (h:=fun K hK=> ?_);go_simp;go_at_call 91;(with_reducible refine(HG.out _ uBy).mono ?_);rintro r w3 ⟨rfl,hb⟩;replace HW:=iH (tW HW.out hb);clear hb;dsimp only;refine hK.out _ _ uAw (fun hHeld=> ?_);clear hK K;(try simp only[pq]);refine tkA 7 16 (h:=?_);refine tkA 8 17 (h:=?_)
 rotate_left
 replace HG:=iH (HGM.out h0)
 clear hs hx1 hy1 hb1 hs1 ha hv hp hp' hvl h1 hsd hr hm h5 hY hB hZ hlen hl6 hy his HGM h4 hu;go_enter Tryz.func64,Tryz.ntmps64;go_upto_region 1 with fail
 clear hw1;go_upto_region 3 with fail
 clear cs;have HKS:Hid (∀V,Below w1.heap.size w1 V->V.cell? ⟨w.heap.size,2,none⟩=some (.string u)/\V.rangeAt b 4 mc.toList):=fun V hV=>⟨gS HC.out.2.1 hV,qG HC.out.2.2.2 hV⟩
 have HW:Hid (Below w1.heap.size w1 w1.drew):=bE w1;refine bL (S:=(fun V=>V.cell? ⟨w.heap.size,2,none⟩=some (.string u)/\V.rangeAt b 4 mc.toList)) [9,10] hO uAw (fun hHeld=> ?_);refine tkA 0 18 (h:=?_);refine tkA 1 19 (h:=?_);(try simp only[pq]);refine tkA 2 20 (h:=?_);refine tyA 3 21 (hy:=bT uAz 98 _ rfl b 4 rfl mc _ (fun w hw=>hw.2) Tryz.underlying98 rfl uMv) (h:=?_);(try simp only[pq]);refine tkA 4 22 (h:=?_);refine tkA 5 23 (h:=?_);(try simp only[pq]);refine tkO 6 (some 24) (h:=fun K hK=> ?_);go_simp;go_at_call 92;(with_reducible refine(HG.out _ uBy).mono ?_);rintro r w3 ⟨rfl,hb⟩;replace HW:=iH (tW HW.out hb);clear hb;dsimp only;refine hK.out _ _ uAw (fun hHeld=> ?_);clear hK K;(try simp only[pq]);refine tkA 7 25 (h:=?_);refine tkA 8 26 (h:=?_)
 all_goals
  (try simp only[pq]);refine tkU 9 none (h:=fun K hK=> ?_);refine kH 35 _ _ rfl (w.heap.size+1) (aX y) rfl rfl 35 _ ((HW.out.block _ uBx).trans HY1.out) aR rfl (eU _) ?_;intro w5 h5 k5;refine hK.out _ _ ?_;clear hK K;(try simp only[pq]);refine tkU 10 (some 5) (h:=fun K hK=> ?_);go_simp;refine hK.out _ _ ?_;clear hK K;(try simp only[pq]);refine bK hO ?_ _;clear hHeld;go_wp2_with fail
  exact bF (bU rfl _ _ (w.heap.size+1) 35 _ (0,0) _ rfl h5 Tryz.underlying35 rfl aR) rfl ⟨y,rfl,HY.out.later ((tW HB1.out HW.out).trans (k5.below uAu)),(tW HB1.out HW.out).trans (k5.below uAu)⟩
theorem aML (k n:Int) (t:ByteArray) (ks:List ByteArray) (xs:List Tr):(Tr.nd k n t ks xs).k=k:=rfl
theorem nd_ks (k n:Int) (t:ByteArray) (ks:List ByteArray) (xs:List Tr):(Tr.nd k n t ks xs).ks=ks:=rfl
theorem nd_xs (k n:Int) (t:ByteArray) (ks:List ByteArray) (xs:List Tr):(Tr.nd k n t ks xs).xs=xs:=rfl
end Go.Proofs.YtengibnpebfblaaGreatDoor
namespace Go.Proofs.YtengibnpebfblaaGreatDoor
open Go.RowKit Go.Shelf
attribute [local go_sem] fK
theorem aHM {ops:Array Oper} {rest:List Oper} {o:Oper} {a:Act} {w:World} {Q:Exit->Act->World->Prop} (hwd:Region.wanted o (yielded ops a.tmps)=true) (T:TypeId) (y:Operand) (ho:o.op=.load T y)
  (b k:Nat) (hx:a.eval y=.pointer (some ⟨b,k,none⟩)) (cs:Array Value) (d:TypeDesc) (hR:w.rangeAt b k cs.toList) (hu:Tryz.prog.underlying T=some d) (hd:d.isRow=true) (hs:(Tryz.prog.info? T).map (·.size)=some cs.size)
  (h:wpList Tryz.prog ops Q rest (a.put o.dst (.agg cs)) w):wpList Tryz.prog ops Q (o::rest) a w:=
 wpList_step fun _ hK=>by
  rw[if_pos hwd];exact wp_load_mid T y ho b k hx _ _ hR hu hd (by rw[hs,bB]) (hK _ _ h)
end Go.Proofs.YtengibnpebfblaaGreatDoor
