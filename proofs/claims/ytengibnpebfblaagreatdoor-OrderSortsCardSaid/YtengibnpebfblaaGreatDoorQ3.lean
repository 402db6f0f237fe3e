import Derived.Test.YtengibnpebfblaaGreatDoorQ0
import Derived.Test.YtengibnpebfblaaGreatDoorQ2
set_option maxRecDepth 1000000
set_option maxHeartbeats 8000000
set_option linter.unusedSimpArgs false
namespace Go.Proofs.YtengibnpebfblaaGreatDoor
open Go.RowKit
def bP (B:Nat) (e:TypeId) (s:Nat) (v:Value) (cs:List (Array Value)) (w:World):Prop:=
 w.ownsRowF B e s v cs.length (cs.flatMap Array.toList)/\B<=w.heap.size/\∀c∈cs,c.size=s
theorem sG (s:Nat):∀cs:List (Array Value),(∀c∈cs,c.size=s)->(cs.flatMap Array.toList).length=cs.length*s
 |[],_=>by simp
 |c::cs,h=>by
  rw[cN,aD,sG s cs (fun x hx=>h x (aU _ hx)),bB,h c (aW ..),aL,gW];omega
theorem sH (s:Nat):∀(cs:List (Array Value)) (i k:Nat) (c:Array Value),(∀c∈cs,c.size=s)->cs[i]? =some c->k<s->(cs.flatMap Array.toList)[i*s+k]? =c[k]?
 |[],_,_,_,_,h,_=>by simp at h
 |a::cs,0,k,c,hs,h,hk=>by
  simp at h;subst h;have:=hs a (aW ..);rw[cN,List.getElem?_append_left uDv];simp
 |a::cs,i+1,k,c,hs,h,hk=>by
  have ha:=hs a (aW ..);rw[cN,List.getElem?_append_right (by simp[ha,gW];omega),bB,ha,
   show(i+1)*s+k-s=i*s+k by rw[gW];omega]
  exact sH s cs i k c (fun x hx=>hs x (aU _ hx)) uDw hk
section
variable {B : Nat} {e : TypeId} {s : Nat} {v : Value} {cs : List (Array Value)} {w w' : World}
theorem bP.grown {row:Option Nat} (h:bP B e s v cs w) (hg:w.grownBy w' row) (hne:v.ownBlock=none\/v.ownBlock≠row):bP B e s v cs w':=
 ⟨h.1.kept hg hne,aG h.2.1 hg.size,h.2.2⟩
theorem bP.later (h:bP B e s v cs w) (hb:Below w.heap.size w w'):bP B e s v cs w':=h.grown (row:=none) ⟨hb.os,hb.tape,hb.output,hb.size,fun k hk _=>hb.block k hk⟩ uGx
theorem bP.at_ (h:bP B e s v cs w) (hn:cs≠[]):∃g cap cur fz,v=.slice (some ⟨g,0,none⟩) cs.length cap/\v.ownBlock=some g/\B<=g/\w.heap[g]? =some (.cells cur e fz):=by
 obtain⟨⟨_,h2⟩,_,_⟩:=h;rcases h2 with⟨_,h2⟩|⟨g,cap,cur,fz,rfl,a2,a3,_⟩
 ·exact absurd (aT h2) hn
 ·exact⟨g,cap,cur,fz,rfl,rfl,a2,a3⟩
theorem bP.but {X:Nat} (h:bP B e s v cs w) (hn:cs≠[]) (k:jK X w w') (hX:X<B):bP B e s v cs w':=by
 obtain⟨g,cap,cur,fz,_,h2,h3,_⟩:=h.at_ hn;exact h.grown k.by_ (.inr (by rw[h2];simp;omega))
theorem bP.apart {e':TypeId} {s':Nat} {v':Value} {cs':List (Array Value)} (h:bP B e s v cs w) (hn:cs≠[]) (h':bP B e' s' v' cs' w) (hn':cs'≠[]) (hT:e≠e') (hg:w.grownBy w' v'.ownBlock):bP B e s v cs w':=by
 obtain⟨g,cap,cur,fz,_,h2,_,h4⟩:=h.at_ hn;obtain⟨g',cap',cur',fz',_,h2',_,h4'⟩:=h'.at_ hn';refine h.grown hg (.inr ?_);rw[h2,h2'];intro x;obtain rfl:=aN x;rw[h4]at h4';simp only[cC,dU]at h4';exact hT h4'.2.1
theorem bP.read (h:bP B e s v cs w) {g cap n i:Nat} (hv:v=.slice (some ⟨g,0,none⟩) n cap) {c:Array Value} (hc:cs[i]? =some c):w.rangeAt g (i*s) c.toList:=by
 obtain⟨hr,_,hs⟩:=h;intro j u hu;have hcs:c.size=s:=hs c (fY hc);have hj:j<s:=by have:=(List.getElem?_eq_some_iff.1 hu).1;simp at this;omega
 have h1:=sH s cs i j c hs hc hj;have h2:(cs.flatMap Array.toList)[i*s+j]? =some u:=by rw[h1];simpa using hu
 have hr':=hr;rcases hr.2 with⟨h3,_⟩|⟨g',cap',cur,fz,h3,_⟩
 ·rw[hv]at h3;cases h3
 ·rw[hv]at h3
  simp only[dR,cC,nB]at h3;obtain⟨⟨rfl,_,_⟩,rfl,rfl⟩:=h3;have h4:=hr'.cells (by rw[hv];rfl) _ u h2;have e:(⟨g,0,none⟩:Addr).add (i*s+j)=⟨g,i*s+j,none⟩:=by unfold Addr.add;split<;>simp_all
  rw[e]at h4;exact h4
end
theorem sR {o:Oper} {a:Act} {w:World} {K:Act->World->Prop} {Q:Exit->Act->World->Prop} (t e:TypeId) (y:Operand) (ho:o.op=.buildSlice t 1 #[(0,y)]) (c:Array Value) (s:Nat) (z:Value)
  (hy:a.eval y=.agg c) (hc:c.size=s) (hs:0<s) (hs2:s<=4096) (hu:Tryz.prog.underlying t=some (.slice e)) (hi:(Tryz.prog.info? e).map (fun i=>(i.size,i.zero))=some (s,some z))
  (h:∀w',w'.heap[w.heap.size]? =some (.cells c e (0,0))->Below w.heap.size w w'->w'.heap.size=w.heap.size+1->K (a.put o.dst (.slice (some ⟨w.heap.size,0,none⟩) 1 1)) w'):o.wp Tryz.prog a w K Q:=by
 cases hq:Tryz.prog.info? e with
 |none=>simp[hq]at hi
 |some i=>
  simp only[hq,Option.map_some,cC,jJ]at hi;obtain⟨r,r1,r2,r3⟩:=Great.fill_dense hs [.agg c] 0 ((Array.range (1*i.size)).map (z.cells[· % z.cells.size]!)) (fun v hv=>by simp at hv;subst hv;exact hc) (by simp[hi.1]);have e1:r=c:=by
   apply Array.ext_getElem?;intro k;rw[r3 k];by_cases hk:k<s
   ·rw[if_pos ⟨by omega,by simp;omega⟩,Nat.div_eq_of_lt hk,Nat.mod_eq_of_lt hk]
    simp[Value.cells]
   ·rw[if_neg uDv,Array.getElem?_eq_none (by simp[hi.1];omega),Array.getElem?_eq_none uAu]
  subst e1;refine wp_buildSlice t e 1 _ ho r i z hu hq hi.2 (by rw[hi.1];omega) (by rw[hi.1];omega) ?_ ?_
  ·rw[<-hi.1]at r1
   simpa[hy]using r1
  ·refine h _ (aF w _) (Below.newly' _ _) uBu
theorem aOw {B:Nat} {e:TypeId} {s g:Nat} {c:Array Value} {w:World} (hB:B<=g) (hg:w.heap[g]? =some (.cells c e (0,0))) (hc:c.size=s):bP B e s (.slice (some ⟨g,0,none⟩) 1 1) [c] w:=by
 have hlt:=(gZ hg)
 refine⟨⟨by simp[hc],.inr ⟨g,1,c,(0,0),rfl,hB,hg,by simp,aE _,by decide,by omega,?_⟩⟩,by omega,fun x hx=>by simp at hx;subst hx;exact hc⟩;rw[aZ uDv];simp
theorem aHz {o:Oper} {a:Act} {K:Act->World->Prop} {Q:Exit->Act->World->Prop} {w:World} (t e:TypeId) (p q:Operand)
  (ho:o.op=.call {callee:=.builtin .append,args:=#[p,q],argTypes:=#[t,t]})
  {B s by_:Nat} {z v:Value} {cs:List (Array Value)} {c:Array Value} (hs:a.eval p=v) (hb:bP B e s v cs w) (g:Nat) (hx:a.eval q=.slice (some ⟨g,0,none⟩) 1 1)
  (hg:w.heap[g]? =some (.cells c e (0,0))) (hc:c.size=s) (h1:c.all (·.oneCell')=true) (hu:Tryz.prog.underlying t=some (.slice e)) (hi:(Tryz.prog.info? e).map (fun i=>(i.zero,i.size,i.bytes))=some (some z,s,by_))
  (hzs:z.cells.size=s) (hsz:0<s) (hlen:cs.length<=100000) (hby:by_<=1000000)
  (h:∀v' w',bP B e s v' (cs++[c]) w'->w.grownBy w' v.ownBlock->K (a.put o.dst v') w'):o.wp Tryz.prog a w K Q:=by
 obtain⟨i,hi0,hz,h2,h3⟩:=dV hi;have hcell:∀j u,c.toList[j]? =some u->w.cell? ((⟨g,0,none⟩:Addr).add j)=some u:=fun j u hj=>by
  exact Ah3
 have hbytes:(cs.length+1)*by_<=140737488355328:=by
  have:(cs.length+1)*by_<=100001*1000000:=wW uAu hby;omega
 obtain⟨v',w',hr,g1,g2,_⟩:=aCj (P:=Tryz.prog) w B t o.type e i z s by_ hu hi0 hz h2 h3 hzs hsz v cs.length (cs.flatMap Array.toList) hb.1 ⟨g,0,none⟩ 1 1 c.toList (by simp[hc]) hcell
  (fun u hu=>(cO.1 h1) u uNy) uCw hbytes hb.2.1
 unfold Oper.wp execOp;simp only[ho,resolve,invoke,builtin,fF,fR,cS,iA,cG,iL,hs,hx,hr];refine h v' w' ⟨?_,aG hb.2.1 g2.size,fun x hx=> ?_⟩ g2
 ·rw[aD,gF]
  simpa using g1
 ·exact Ai6
section
variable {B : Nat} {e : TypeId} {s : Nat} {v : Value} {cs : List (Array Value)} {w w' : World}
theorem bP.own (h:bP B e s v cs w):v.ownBlock=none\/∃g cur fz,v.ownBlock=some g/\B<=g/\w.heap[g]? =some (.cells cur e fz):=by
 obtain⟨⟨_,h2⟩,_,_⟩:=h;exact Ah6
theorem bP.keeps (h:bP B e s v cs w) (hg:w.grownBy w' v.ownBlock) {X:Nat} {o:Obj} (hX:X<B) (ho:w.heap[X]? =some o):w'.heap[X]? =some o:=by
 refine(hg.block X (gZ ho) ?_).trans ho;exact Ak1
theorem bP.keepsT (h:bP B e s v cs w) (hg:w.grownBy w' v.ownBlock) {Y:Nat} {c:Array Value} {T:TypeId} {fr:Nat×Nat} (hT:e≠T) (ho:w.heap[Y]? =some (.cells c T fr)):w'.heap[Y]? =some (.cells c T fr):=by
 exact Ad9
theorem bP.typed' (h:bP B e s v cs w):∀X,v.ownBlock=some X->∃cs fr,w.heap[X]? =some (.cells cs e fr):=by
 intro X hX;rcases h.own with h1|⟨g,cur,fz,h1,_,h3⟩
 ·rw[h1]at hX;cases hX
 ·rw[h1]at hX
  obtain rfl:=aN hX;exact⟨cur,fz,h3⟩
theorem bP.typed (h:bP B e s v cs w) (hT:e≠3):∀X,v.ownBlock=some X->∃cs T fr,w.heap[X]? =some (.cells cs T fr)/\T≠3:=by
 intro X hX;rcases h.own with h1|⟨g,cur,fz,h1,_,h3⟩
 ·rw[h1]at hX;cases hX
 ·rw[h1]at hX
  obtain rfl:=aN hX;exact⟨cur,e,fz,h3,hT⟩
theorem bP.below (h:bP B e s v cs w) (hg:w.grownBy w' v.ownBlock) {X:Nat} (hX:X<=B) (hw:X<=w.heap.size):Below X w w':=by
 refine⟨hg.os,hg.tape,hg.output,hg.size,fun k hk=>hg.block k uAu ?_⟩;exact Ak1
end
theorem bT {ops:Array Oper} {S:World->Prop} {op:Oper} {a:Act} (hw:Region.wanted op (yielded ops a.tmps)=true) (ty:TypeId) (y:Operand) (ho:op.op=.load ty y)
  (b k:Nat) (hx:a.eval y=.pointer (some ⟨b,k,none⟩)) (c:Array Value) (d:TypeDesc) (hS:∀w,S w->w.rangeAt b k c.toList) (hu:Tryz.prog.underlying ty=some d) (hd:d.isRow=true) (hi:(Tryz.prog.info? ty).map (·.size)=some c.size):YieldsIf Tryz.prog ops S op (.agg c) a:=by
 have h:=yieldsIf_load_mid (P:=Tryz.prog) hw ty y ho b k hx c.toList d hS hu hd (by rw[hi];simp);simpa using h
theorem dB {w w':World} {b o:Nat} {cs:List Value} (h:w.rangeAt b o cs) (hb:Below w.heap.size w w'):w'.rangeAt b o cs:=fun j v hv=>(hb.cell (aM w _ (h j v hv))).trans (h j v hv)
theorem nK {ops:Array Oper} {rest:List Oper} {o:Oper} {a:Act} {w:World} {Q:Exit->Act->World->Prop} (hgd:o.guard=none) (t e:TypeId) (y:Operand) (ho:o.op=.buildSlice t 1 #[(0,y)]) (c:Array Value) (s:Nat) (z:Value)
  (hy:a.eval y=.agg c) (hc:c.size=s) (hs:0<s) (hs2:s<=4096) (hu:Tryz.prog.underlying t=some (.slice e)) (hi:(Tryz.prog.info? e).map (fun i=>(i.size,i.zero))=some (s,some z))
  (h:∀w',w'.heap[w.heap.size]? =some (.cells c e (0,0))->Below w.heap.size w w'->w'.heap.size=w.heap.size+1->wpList Tryz.prog ops Q rest (a.put o.dst (.slice (some ⟨w.heap.size,0,none⟩) 1 1)) w'):wpList Tryz.prog ops Q (o::rest) a w:=
 cW hgd fun _ hK=>sR t e y ho c s z hy hc hs hs2 hu hi fun w' h1 h2 h3=>hK _ _ (h w' h1 h2 h3)
theorem rY {ops:Array Oper} {rest:List Oper} {o:Oper} {a:Act} {Q:Exit->Act->World->Prop} {w:World} (hgd:o.guard=none) (t e:TypeId) (p q:Operand)
  (ho:o.op=.call {callee:=.builtin .append,args:=#[p,q],argTypes:=#[t,t]})
  {B s by_:Nat} {z v:Value} {cs:List (Array Value)} {c:Array Value} (hs:a.eval p=v) (hb:bP B e s v cs w) (g:Nat) (hx:a.eval q=.slice (some ⟨g,0,none⟩) 1 1)
  (hg:w.heap[g]? =some (.cells c e (0,0))) (hc:c.size=s) (h1:c.all (·.oneCell')=true) (hu:Tryz.prog.underlying t=some (.slice e)) (hi:(Tryz.prog.info? e).map (fun i=>(i.zero,i.size,i.bytes))=some (some z,s,by_))
  (hzs:z.cells.size=s) (hsz:0<s) (hlen:cs.length<=100000) (hby:by_<=1000000)
  (h:∀v' w',bP B e s v' (cs++[c]) w'->w.grownBy w' v.ownBlock->wpList Tryz.prog ops Q rest (a.put o.dst v') w'):wpList Tryz.prog ops Q (o::rest) a w:=
 cW hgd fun _ hK=>aHz t e p q ho hs hb g hx hg hc h1 hu hi hzs hsz hlen hby fun v' w' h1 h2=>hK _ _ (h v' w' h1 h2)
end Go.Proofs.YtengibnpebfblaaGreatDoor
namespace Go.Proofs.YtengibnpebfblaaGreatDoor
open Go.RowKit
def kU (W:World) (s:Nat) (v:Value) (F:Nat->Value) (n:Nat):Prop:=∃(a:Option Addr) (cap:Nat),v=.slice a n cap/\(0<n->∃ad,a=some ad/\∀j,j<n*s->W.cell? (ad.add j)=some (F j))
def kK (S:Nat->Prop) (W:World) (T:TypeId) (s:Nat) (v:Value) (F:Nat->Value) (n:Nat):Prop:=
 (n=0/\v=.slice none 0 0)\/(0<n/\∃(g c:Nat) (cs:Array Value) (fr:Nat×Nat),v=.slice (some ⟨g,0,none⟩) n c/\n<=c/\S g/\W.heap[g]? =some (.cells cs T fr)/\∀j,j<n*s->cs[j]? =some (F j))
section
variable {S S' : Nat → Prop} {W W' : World} {T : TypeId} {s n : Nat} {v : Value} {F G : Nat → Value}
theorem kK.none (S:Nat->Prop) (W:World) (T:TypeId) (s:Nat) (F:Nat->Value):kK S W T s (.slice .none 0 0) F 0:=.inl ⟨rfl,rfl⟩
theorem kK.weak (h:kK S W T s v F n) (hs:∀g,S g->S' g):kK S' W T s v F n:=by
 rcases h with h|⟨h0,g,c,cs,fr,h1,h2,h3,h4⟩
 ·exact .inl h
 ·exact .inr ⟨h0,g,c,cs,fr,h1,h2,hs g h3,h4⟩
theorem kK.old (h:kK S W T s v F n):kK (fun g=>S g/\g<W.heap.size) W T s v F n:=by
 rcases h with h|⟨h0,g,c,cs,fr,h1,h2,h3,h4,h5⟩
 ·exact .inl h
 ·exact .inr ⟨h0,g,c,cs,fr,h1,h2,⟨h3,(gZ h4)⟩,h4,h5⟩
theorem kK.kept {row:Option Nat} (h:kK S W T s v F n) (hg:W.grownBy W' row) (hr:∀X,row=some X->¬S X):kK S W' T s v F n:=by
 rcases h with h|⟨h0,g,c,cs,fr,h1,h2,h3,h4,h5⟩
 ·exact .inl h
 ·exact .inr ⟨h0,g,c,cs,fr,h1,h2,h3,(hg.block g (gZ h4) (fun e=>hr g e.symm h3)).trans h4,h5⟩
theorem kK.keptT {row:Option Nat} (h:kK S W T s v F n) (hg:W.grownBy W' row) (hT:∀X,row=some X->∃o:Obj,W.heap[X]? =some o/\∀cs fr,o≠.cells cs T fr):kK S W' T s v F n:=by
 rcases h with h|⟨h0,g,c,cs,fr,h1,h2,h3,h4,h5⟩
 ·exact .inl h
 ·refine .inr ⟨h0,g,c,cs,fr,h1,h2,h3,(hg.block g (gZ h4) (fun e=> ?_)).trans h4,h5⟩
  exact Aj0
theorem kK.later (h:kK S W T s v F n) (hb:Below W.heap.size W W'):kK S W' T s v F n:=
 h.kept (row:=.none) ⟨hb.os,hb.tape,hb.output,hb.size,fun k hk _=>hb.block k hk⟩ (fun _ e=>by cases e)
theorem kK.congr (h:kK S W T s v F n) (e:∀j,j<n*s->F j=G j):kK S W T s v G n:=by
 rcases h with h|⟨h0,g,c,cs,fr,h1,h2,h3,h4,h5⟩
 ·exact .inl h
 ·exact .inr ⟨h0,g,c,cs,fr,h1,h2,h3,h4,fun j hj=>by rw[<-e j hj];exact h5 j hj⟩
theorem kK.places (h:kK S W T s v F n):kU W s v F n:=by
 rcases h with⟨rfl,rfl⟩|⟨h0,g,c,cs,fr,rfl,h2,h3,h4,h5⟩
 ·exact⟨_,0,rfl,fun h=>absurd h uAu⟩
 ·refine⟨_,c,rfl,fun _=>⟨_,rfl,fun j hj=> ?_⟩⟩
  rw[qQ,dL];exact aK h4 (h5 j hj)
theorem kK.shape (h:kK S W T s v F n):∃a c,v=.slice a n c/\n<=c:=by
 rcases h with⟨rfl,rfl⟩|⟨_,g,c,_,_,rfl,h,_⟩
 ·exact⟨_,0,rfl,aE _⟩
 ·exact⟨_,c,rfl,h⟩
theorem kK.pos (h:kK S W T s v F n) (h0:0<n):∃(g c:Nat) (cs:Array Value) (fr:Nat×Nat),v=.slice (some ⟨g,0,.none⟩) n c/\n<=c/\S g/\W.heap[g]? =some (.cells cs T fr)/\∀j,j<n*s->cs[j]? =some (F j):=by
 rcases h with⟨rfl,_⟩|⟨_,h⟩
 ·omega
 ·exact h
theorem kU.later (h:kU W s v F n) (hb:Below W.heap.size W W'):kU W' s v F n:=by
 obtain⟨a,cap,rfl,h2⟩:=h;refine⟨a,cap,rfl,fun h0=> ?_⟩;obtain⟨ad,rfl,hc⟩:=h2 h0;exact⟨ad,rfl,fun j hj=>(hb.cell (p:=ad.add j) (aM W _ (hc j hj))).trans (hc j hj)⟩
theorem kU.congr (h:kU W s v F n) (e:∀j,j<n*s->F j=G j):kU W s v G n:=by
 obtain⟨a,cap,rfl,h2⟩:=h;refine⟨a,cap,rfl,fun h0=> ?_⟩;obtain⟨ad,rfl,hc⟩:=h2 h0;exact⟨ad,rfl,fun j hj=>by rw[<-e j hj];exact hc j hj⟩
end
def fi (f:Nat->Int):Nat->Value:=fun j=>.int .i64 (f j)
theorem aHQ (zs:List Int) (j:Nat) (h:j<zs.length):(iv zs)[j]? =some (.int .i64 (zs.getD j 0)):=by
 rw[iv,List.getElem?_map,List.getElem?_eq_getElem h,List.getD_eq_getElem?_getD,List.getElem?_eq_getElem h];rfl
theorem aDr.places {W:World} {v:Value} {zs:List Int} (h:aDr W v zs):kU W 1 v (fi fun i=>zs.getD i 0) zs.length:=by
 obtain⟨a,cap,rfl,h2⟩:=h;refine⟨a,cap,rfl,fun h0=> ?_⟩;obtain⟨ad,rfl,hc⟩:=h2 h0;exact⟨ad,rfl,fun j hj=>hc j _ (aHQ zs j uAu)⟩
section
variable {P : Program}
theorem mH (w:World) {ops:Array Oper} {rest:List Oper} {o:Oper} {a:Act} {Q:Exit->Act->World->Prop} (hg:o.guard=none) (l c:Operand) (t:TypeId) (hop:o.op=Op.makeSlice t l c)
  (e:TypeId) (i:TypeInfo) (z:Value) (s:Nat) (ht:P.underlying t=some (.slice e)) (hi:P.info? e=some i) (hz:i.zero=some z) (hsize:i.size=s)
  (kl kc:IntKind) (n:Nat) (hl:a.eval l=.int kl (n:Int)) (hc:a.eval c=.int kc (n:Int)) (hbytes:i.bytes*n<=281474976710656) (h63:n<=9223372036854775807)
  (hK:wpList P ops Q rest (a.put o.dst (.slice (some ⟨w.heap.size,0,none⟩) n n)) (w.alloc (.cells (madeCells z.cells (n*s)) e))):wpList P ops Q (o::rest) a w:=by
 subst hsize;refine cW hg fun K hK'=> ?_
 have hrun:=run_make (P:=P) w t e i z ht hi hz kl kc n n uAu (Int.le_refl _) (by
  have h:((i.bytes*n:Nat):Int)<=281474976710656:=by omega
  rwa[Int.natCast_mul]at h) uAu
 simp only[lC]at hrun;unfold Oper.wp;simp[execOp,hop,hl,hc,hrun,Result.andThen];exact hK' _ _ hK
theorem aMP (cur:Array Value) (o:Nat) (vs:List Value) (hk:o+vs.length<=cur.size) (j:Nat):
  (cur.toList.take o++vs++cur.toList.drop (o+vs.length)).toArray[j]? =if o<=j/\j<o+vs.length then vs[j-o]? else cur[j]? :=by
 have hl:(cur.toList.take o).length=o:=by simp;omega
 rw[List.getElem?_toArray,bN];by_cases h1:j<o
 ·rw[if_neg uAu,List.getElem?_append_left uAu,List.getElem?_take_of_lt h1,Array.getElem?_toList]
 ·rw[List.getElem?_append_right uAu,hl]
  by_cases h2:j<o+vs.length
  ·rw[if_pos ⟨by omega,h2⟩,List.getElem?_append_left uAu]
  ·rw[if_neg uAu,List.getElem?_append_right uAu,List.getElem?_drop,Array.getElem?_toList]
   congr 1
   omega
theorem aJ7 (cur:Array Value) (o:Nat) (vs:List Value) (hk:o+vs.length<=cur.size):(cur.toList.take o++vs++cur.toList.drop (o+vs.length)).toArray.size=cur.size:=by simp;omega
theorem aGK (w:World) (dT sT ty elem:TypeId) (g dLen dCap s:Nat) (a:Addr) (sLen sCap:Nat) (cur:Array Value) (t:TypeId) (cs:List Value)
  (hu:P.underlying dT=some (.slice elem)) (hs:(P.info? elem).map (·.size)=some s)
  (hg:w.heap[g]? =some (.cells cur t (0,0))) (hle:sLen<=dLen) (hn:cs.length=sLen*s)
  (hsrc:∀j v,cs[j]? =some v->w.cell? (a.add j)=some v) (hfit:cs.length<=cur.size) (h1:∀v∈cs,v.oneCell'=true):
  (Builtin.copy_ #[dT,sT] ty #[.slice (some ⟨g,0,none⟩) dLen dCap,.slice (some a) sLen sCap]).run P w=
   .ok (goInt sLen) (w.setRow g (cur.toList.take 0++cs++cur.toList.drop (0+cs.length)).toArray):=by
 have hl:=aGm (P:=P) w a cs hsrc;have hst:=kZ P g 0 t cs 0 cur w hg (by simpa using hfit) h1;have hmin:Nat.min sLen dLen=sLen:=gA hle;cases hq:P.info? elem with
 |none=>simp[hq]at hs
 |some i=>
  have hi:i.size=s:=by simpa[hq]using hs
  rw[hn]at hl;simp only[kA,dL]at hst ⊢;simp[Builtin.copy_,rF hu,Builtin.lenOf,Builtin.firstCells,sizeOf,typeInfo,hq,hi,hmin,hl,hst]
theorem aAm (w:World) (dT sT ty elem:TypeId) (d sp:Option Addr) (dLen dCap s sCap:Nat) (hu:P.underlying dT=some (.slice elem)) (hs:(P.info? elem).map (·.size)=some s):
  (Builtin.copy_ #[dT,sT] ty #[.slice d dLen dCap,.slice sp 0 sCap]).run P w=.ok (goInt 0) w:=by
 have hmin:Nat.min 0 dLen=0:=Nat.zero_min _;cases hq:P.info? elem with
 |none=>simp[hq]at hs
 |some i=>
  cases d<;>cases sp<;>simp[Builtin.copy_,rF hu,Builtin.lenOf,Builtin.firstCells,sizeOf,typeInfo,hq,hmin,storeCells,loadCells,loadCellsFrom,Result.andThen]
theorem aCo {w:World} {ops:Array Oper} {rest:List Oper} {o:Oper} {a:Act} {Q:Exit->Act->World->Prop} (hgd:o.guard=none) (d x:Operand) (dT sT:TypeId)
  (ho:o.op=.call {callee:=.builtin .copy,args:=#[d,x],argTypes:=#[dT,sT]}) (elem:TypeId) (hu:P.underlying dT=some (.slice elem)) (s:Nat) (hsz:(P.info? elem).map (·.size)=some s)
  (g dLen dCap:Nat) (hd:a.eval d=.slice (some ⟨g,0,none⟩) dLen dCap) (v:Value) (hv:a.eval x=v) (F:Nat->Value) (n:Nat) (hF:kU w s v F n) (hle:n<=dLen)
  (T:TypeId) (cur:Array Value) (hg:w.heap[g]? =some (.cells cur T (0,0))) (hfit:n*s<=cur.size) (h1:∀j,j<n*s->(F j).oneCell'=true)
  (h:∀w' cur',w'.heap[g]? =some (.cells cur' T (0,0))->cur'.size=cur.size->(∀j,cur'[j]? =if j<n*s then some (F j)else cur[j]?)->jK g w w'->wpList P ops Q rest (a.put o.dst (goInt n)) w'):wpList P ops Q (o::rest) a w:=by
 refine cW hgd fun K hK=> ?_
 obtain⟨ap,cap,rfl,h2⟩:=hF;by_cases h0:n=0
 ·subst h0
  have hrun:=aAm (P:=P) w dT sT o.type elem (some ⟨g,0,none⟩) ap dLen dCap s cap hu hsz;unfold Oper.wp;simp[execOp,ho,resolve,invoke,builtin,hd,hv,hrun,Result.andThen];exact hK _ _ (h w cur hg rfl (fun j=>by simp) (jK.refl _ _))
 ·obtain⟨ad,rfl,hc⟩:=h2 uAu
  have hlen:((List.range (n*s)).map F).length=n*s:=by simp
  have hrun:=aGK (P:=P) w dT sT o.type elem g dLen dCap s ad n cap cur T ((List.range (n*s)).map F) hu hsz hg hle hlen (fun j u hu=>by
   have hj:j<n*s:=by have:=(List.getElem?_eq_some_iff.1 hu).1;simpa using this
   rw[List.getElem?_map,List.getElem?_range hj]at hu;rw[hc j hj];exact hu) (by rw[hlen];exact hfit) (fun u hu=>by
   obtain⟨j,hj,rfl⟩:=cH.1 hu;exact h1 j uDx)
  unfold Oper.wp;simp[execOp,ho,resolve,invoke,builtin,hd,hv,hrun,Result.andThen];refine hK _ _ (h _ _ (by simpa using mK w g _ (cur.toList.take 0++(List.range (n*s)).map F++cur.toList.drop (0+((List.range (n*s)).map F).length)).toArray _ _ hg) (by simpa using aJ7 cur 0 ((List.range (n*s)).map F) (by rw[hlen];omega)) (fun j=> ?_) (by simpa using jA w g (cur.toList.take 0++(List.range (n*s)).map F++cur.toList.drop (0+((List.range (n*s)).map F).length)).toArray));have:=aMP cur 0 ((List.range (n*s)).map F) (by rw[hlen];omega) j;simp only[hlen,dL,aQ,aAz,Nat.sub_zero]at this;by_cases hj:j<n*s
  ·rw[if_pos hj]
   rw[if_pos hj,List.getElem?_map,List.getElem?_range hj]at this;simpa using this
  ·rw[if_neg hj]
   rw[if_neg hj]at this;simpa using this
end
theorem aAU (z:Array Value) (n j:Nat) (h:j<n):(madeCells z n)[j]? =some (z[j % z.size]!):=by simp[madeCells,h]
end Go.Proofs.YtengibnpebfblaaGreatDoor
