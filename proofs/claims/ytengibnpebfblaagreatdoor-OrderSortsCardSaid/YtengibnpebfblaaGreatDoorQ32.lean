import Derived.Test.YtengibnpebfblaaGreatDoorQ0
import Derived.Test.YtengibnpebfblaaGreatDoorQ25
set_option maxRecDepth 1000000
set_option maxHeartbeats 8000000
set_option linter.unusedSimpArgs false
namespace Go.Proofs.YtengibnpebfblaaGreatDoor
open Go.RowKit
def LsT (S:Nat->Prop) (W:World) (T:TypeId) (s:Nat) (v:Value) (cs:List Value) (n:Nat):Prop:=
 cs.length=n*s/\n<=maxLen/\∃(a:Option Addr) (c:Nat),v=.slice a n c/\n<=c/\((a=none/\c=0)\/∃(g o:Nat) (cur:Array Value) (fr:Nat×Nat),a=some ⟨g,o,none⟩/\S g/\W.heap[g]? =some (.cells cur T fr)/\∀(j:Nat) (u:Value),cs[j]? =some u->cur[o+j]? =some u)
def KT (S:Nat->Prop) (w w':World):Prop:=∀(g:Nat) (cur:Array Value) (T:TypeId) (fr:Nat×Nat),S g->(T=9\/T=28)->w.heap[g]? =some (.cells cur T fr)->w'.heap[g]? =some (.cells cur T fr)
mutual
def TrS (S:Nat->Prop) (W:World):Tr->Value->Prop
 | .nd k n t ks xs,v=>∃(kv xv:Value) (css:List (Array Value)),v=.agg (trC k n t kv xv)/\t.size<=maxLen/\InR k/\InR n/\LsT S W 9 1 kv (ks.map Value.string) ks.length/\LsT S W 28 5 xv (css.flatMap Array.toList) xs.length/\iS S W xs css
def iS (S:Nat->Prop) (W:World):List Tr->List (Array Value)->Prop
 |[],l=>l=[]
 |x::r,l=>∃c l',l=c::l'/\c.size=5/\TrS S W x (.agg c)/\iS S W r l'
end
section
variable {S S' : Nat → Prop} {W W' W'' : World} {T : TypeId} {s n : Nat} {v : Value} {cs : List Value}
theorem KT.refl:KT S W W:=fun _ _ _ _ _ _ h=>h
theorem KT.trans (h:KT S W W') (k:KT S W' W''):KT S W W'':=fun g cur T fr hg hT e=>k g cur T fr hg hT (h g cur T fr hg hT e)
theorem KT.weak (h:KT S' W W') (hS:∀g,S g->S' g):KT S W W':=fun g cur T fr hg=>h g cur T fr (hS g hg)
theorem KT.later (hb:Below W.heap.size W W'):KT S W W':=fun g _ _ _ _ _ h=>(hb.block g (gZ h)).trans h
theorem KT.low {n₀:Nat} (hb:Below n₀ W W') (hS:∀g,S g->g<n₀):KT S W W':=fun g _ _ _ hg _ h=>(hb.block g (hS g hg)).trans h
theorem KT.grown {row:Option Nat} (hg:W.grownBy W' row) (hX:∀X,row=some X->¬S X):KT S W W':=fun g _ _ _ hS _ h=>(hg.block g (gZ h) (fun e=>hX g e.symm hS)).trans h
theorem KT.other {X:Nat} {cur:Array Value} {T:TypeId} {fr:Nat×Nat} (hg:W.grownBy W' (some X)) (hX:W.heap[X]? =some (.cells cur T fr)) (h1:T≠9) (h2:T≠28):KT S W W':=fun g c T' f' _ hT h=>
 (hg.block g (gZ h) (fun e=>by
  cases e
  rw[hX]at h;cases h
  rcases hT with hT|hT
  ·exact h1 hT
  ·exact h2 hT)).trans h
theorem LsT.imp (h:LsT S W T s v cs n) (hT:T=9\/T=28) (k:KT S W W') (hS:∀g,S g->g<W.heap.size->S' g):LsT S' W' T s v cs n:=by
 obtain⟨h1,h2,a,c,h3,h4,h5⟩:=h;refine⟨h1,h2,a,c,h3,h4,h5.imp_right ?_⟩;rintro⟨g,o,cur,fr,e,hg,hb,h⟩;exact⟨g,o,cur,fr,e,hS g hg (gZ hb),k g cur T fr hg hT hb,h⟩
theorem vP (S:Nat->Prop) (W:World) (T:TypeId) (s:Nat):LsT S W T s (.slice none 0 0) [] 0:=⟨by simp,aQ _,none,0,rfl,aE _,.inl ⟨rfl,rfl⟩⟩
theorem oQ:∀{xs:List Tr} {l:List (Array Value)},iS S W xs l->l.length=xs.length
 |[],l,h=>by rw[iS]at h;subst h;rfl
 |x::r,l,h=>by
  rw[iS]at h;obtain⟨c,l',rfl,_,_,h⟩:=h;rw[aL,aL,oQ h]
theorem oH:∀{xs:List Tr} {l:List (Array Value)} {j:Nat} (_:iS S W xs l) (hj:j<xs.length) (hl:j<l.length),l[j].size=5/\TrS S W xs[j] (.agg l[j])
 |[],_,_,_,hj,_=>by simp at hj
 |x::r,l,0,h,_,_=>by
  rw[iS]at h;obtain⟨c,l',rfl,h0,h,_⟩:=h;exact⟨h0,h⟩
 |x::r,l,j+1,h,hj,hl=>by
  rw[iS]at h;obtain⟨c,l',rfl,_,_,h⟩:=h;exact oH h uDx uNz
theorem yJ:∀{xs:List Tr} {l:List (Array Value)},l.length=xs.length->(∀j (hj:j<xs.length) (hl:j<l.length),l[j].size=5/\TrS S W xs[j] (.agg l[j]))->iS S W xs l
 |[],l,h,_=>by rw[iS];exact aT h
 |x::r,[],h,_=>by simp at h
 |x::r,c::l,h,hv=>by
  rw[iS];exact⟨c,l,rfl,(hv 0 uBu uBu).1,(hv 0 uBu uBu).2,yJ uDw fun j hj hl=>hv (j+1) uDx uNz⟩
theorem uI:∀{xs ys:List Tr} {l m:List (Array Value)},iS S W xs l->iS S W ys m->iS S W (xs++ys) (l++m)
 |[],_,l,m,h,hy=>by rw[iS]at h;subst h;exact hy
 |x::r,ys,l,m,h,hy=>by
  rw[iS]at h;obtain⟨c,l',rfl,h0,h1,h2⟩:=h;rw[bC,bC,iS];exact⟨c,_,rfl,h0,h1,uI h2 hy⟩
theorem aBa {x:Tr} {c:Array Value} (hc:c.size=5) (h:TrS S W x (.agg c)):iS S W [x] [c]:=by
 rw[iS];exact⟨c,[],rfl,hc,h,by rw[iS]⟩
theorem aCK {xs:List Tr} {l:List (Array Value)} (h:iS S W xs l):∀c∈l,c.size=5:=by
 intro c hc;obtain⟨j,hj,rfl⟩:=lB.1 hc;exact(oH h (by rw[<-oQ h];exact hj) hj).1
theorem aMl (k:KT S W W') (hS:∀g,S g->g<W.heap.size->S' g) (a:Tr):∀v,TrS S W a v->TrS S' W' a v:=by
 induction a using fS with
 |h kk n t ks xs ih=>
  intro v hv;rw[TrS]at hv ⊢;obtain⟨kv,xv,css,h1,h2,h3,h4,h5,h6,h7⟩:=hv;exact⟨kv,xv,css,h1,h2,h3,h4,h5.imp (.inl rfl) k hS,h6.imp (.inr rfl) k hS,yJ (oQ h7) fun j hj hl=>⟨(oH h7 hj hl).1,ih _ (aO hj) _ (oH h7 hj hl).2⟩⟩
end
section
variable {S S' : Nat → Prop} {w w' : World} {a : Tr} {v : Value} {xs : List Tr} {l : List (Array Value)}
theorem TrS.imp (h:TrS S w a v) (k:KT S w w') (hS:∀g,S g->g<w.heap.size->S' g):TrS S' w' a v:=aMl k hS a v h
theorem TrS.kept (h:TrS S w a v) (k:KT S w w'):TrS S w' a v:=h.imp k fun _ h _=>h
theorem TrS.later (h:TrS S w a v) (hb:Below w.heap.size w w'):TrS S w' a v:=h.kept (KT.later hb)
theorem TrS.weak (h:TrS S w a v) (hS:∀g,S g->S' g):TrS S' w a v:=h.imp KT.refl fun g h _=>hS g h
theorem TrS.old (h:TrS S w a v):TrS (fun g=>S g/\g<w.heap.size) w a v:=h.imp KT.refl fun _ h h'=>⟨h,h'⟩
theorem iS.imp (h:iS S w xs l) (k:KT S w w') (hS:∀g,S g->g<w.heap.size->S' g):iS S' w' xs l:=
 yJ (oQ h) fun _ hj hl=>⟨(oH h hj hl).1,(oH h hj hl).2.imp k hS⟩
theorem iS.later (h:iS S w xs l) (hb:Below w.heap.size w w'):iS S w' xs l:=h.imp (KT.later hb) fun _ h _=>h
theorem iS.weak (h:iS S w xs l) (hS:∀g,S g->S' g):iS S' w xs l:=h.imp KT.refl fun g h _=>hS g h
theorem iS.old (h:iS S w xs l):iS (fun g=>S g/\g<w.heap.size) w xs l:=h.imp KT.refl fun _ h h'=>⟨h,h'⟩
theorem LsT.cell {T:TypeId} {s n:Nat} {cs:List Value} (h:LsT S w T s v cs n) (hn:0<n):∃(g o c:Nat),v=.slice (some ⟨g,o,none⟩) n c/\S g/\∀(j:Nat) (u:Value),cs[j]? =some u->w.cell? ⟨g,o+j,none⟩=some u:=by
 obtain⟨_,_,a,c,h3,h4,⟨_,h5⟩|⟨g,o,cur,fr,rfl,hS,hb,hc⟩⟩:=h
 ·omega
 ·exact⟨g,o,c,h3,hS,fun j u hu=>aK hb (hc j u hu)⟩
theorem trS_v (a:Tr):∀v,TrS S w a v->TrV w a v:=by
 induction a using fS with
 |h k n t ks xs ih=>
  intro v hv;rw[TrS]at hv;obtain⟨kv,xv,css,h1,h2,h3,h4,h5,h6,h7⟩:=hv;have hl:=oQ h7;have hsz:=aCK h7;rw[TrV];refine⟨kv,xv,h1,h2,h3,h4,?_,?_⟩
  ·obtain⟨_,hm,ad,c,e,_,hr⟩:=h5
   rcases hr with⟨rfl,rfl⟩|⟨g,o,cur,fr,rfl,_,hb,hc⟩
   ·rcases gP ks.length with h0|h0
    ·exact⟨none,0,0,0,e,fun h=>by omega,fun j h=>by omega,hm⟩
    ·omega
   ·refine⟨_,c,g,o,e,fun _=>rfl,fun j hj=>aK hb (hc j _ uLv),hm⟩
  ·obtain⟨_,hm,ad,c,e,_,hr⟩:=h6
   rcases hr with⟨rfl,rfl⟩|⟨g,o,cur,fr,rfl,_,hb,hc⟩
   ·rcases gP xs.length with h0|h0
    ·exact⟨none,0,0,0,e,fun h=>by omega,hm,zU fun j hj=>by omega⟩
    ·omega
   ·refine⟨_,c,g,o,e,fun _=>rfl,hm,zU fun j hj=> ?_⟩
    obtain⟨q1,q2⟩:=oH h7 hj uAu;refine⟨css[j],q1,fun i u hu=> ?_,ih _ (aO hj) _ q2⟩;have hi:i<5:=by have:=(List.getElem?_eq_some_iff.1 hu).1;rw[bB,q1]at this;exact this
    have:=sH 5 css j i css[j] hsz (List.getElem?_eq_getElem uAu) hi;rw[show o+j*5+i=o+(j*5+i) by omega];refine aK hb (hc _ u ?_);rw[this];simpa using hu
theorem TrS.trv (h:TrS S w a v):TrV w a v:=trS_v a v h
end
theorem aAx {P:Program} {w:World} (t ty e:TypeId) (i:TypeInfo) (z:Value) (size bytes:Nat) (ht:P.underlying t=some (.slice e)) (hi:P.info? e=some i) (hz:i.zero=some z)
  (hsize:i.size=size) (hby:i.bytes=bytes) (hzs:z.cells.size=size) (hsz:0<size) {base:Nat}
  (v:Value) (n:Nat) (xs:List Value) (hown:w.ownsRowF base e size v n xs)
  (a:Addr) (m c:Nat) (news:List Value) (hl:news.length=m*size) (hnews:∀j u,news[j]? =some u->w.cell? (a.add j)=some u) (h1:∀u∈news,u.oneCell'=true)
  (h63:n+m<=maxLen) (hbytes:(n+m)*bytes<=140737488355328) (v':Value) (w':World) (hr':(Builtin.append_ #[t,t] ty #[v,.slice (some a) m c]).run P w=.ok v' w'):
  v'.ownBlock=v.ownBlock\/∃g',v'.ownBlock=some g'/\w.heap.size<=g':=by
 rcases hown.2 with⟨rfl,rfl⟩|⟨g,cap,cur,fz,rfl,hbg,hg,hfz,hnc,hcm,hcs,htake⟩
 ·obtain⟨v'',w'',r1,r2,_,_⟩:=run_append_own (P:=P) w w.heap.size t ty e i z size bytes ht hi hz hsize hby hzs hsz (.slice none 0 0) 0 xs ⟨hown.1,.inl ⟨rfl,rfl⟩⟩ a m c news hl hnews h1 h63 hbytes (aE _)
  rw[hr']at r1;obtain⟨rfl,rfl⟩:=Result.ok.inj r1;rcases r2.2 with⟨h,_⟩|⟨g,cap,cur,h,hg,_⟩
  ·left
   rw[h]
  ·right
   exact⟨g,by rw[h];rfl,hg⟩
 ·subst hsize
  subst hby;have hsmall:n+m<=9223372036854775807:=by simp only[maxLen]at h63;omega
  by_cases hroom:n+m<=cap
  ·have hfit:n*i.size+news.length<=cur.size:=by rw[hl,hcs,<-gW];exact dE _ hroom
   have hr:=run_append_roomF (P:=P) w t ty e i ht hi g n cap cur fz hg hfz a m c news hl hnews h1 hroom hfit;rw[hr']at hr;left;rw[(Result.ok.inj hr).1];rfl
  ·have holds:∀j u,xs[j]? =some u->w.cell? ((⟨g,0,none⟩:Addr).add j)=some u:=hown.cells (g:=g) rfl
   have hr:=run_append_grow (P:=P) w t ty e i z ht hi hz ⟨g,0,none⟩ n cap xs hown.1 holds a m c news hl hnews uAu uAu (aDx uAu hbytes);rw[hr']at hr;right;exact⟨w.heap.size,by rw[(Result.ok.inj hr).1];rfl,aE _⟩
theorem aKk {o:Oper} {a:Act} {K:Act->World->Prop} {Q:Exit->Act->World->Prop} {w:World} (t e:TypeId) (p q:Operand)
  (ho:o.op=.call {callee:=.builtin .append,args:=#[p,q],argTypes:=#[t,t]})
  {B s by_:Nat} {z v:Value} {cs ds:List (Array Value)} (hs:a.eval p=v) (hb:bP B e s v cs w) (ad:Addr) (cc m:Nat) (hm:m=ds.length) (hx:a.eval q=.slice (some ad) m cc)
  (hg:∀j u,(ds.flatMap Array.toList)[j]? =some u->w.cell? (ad.add j)=some u) (hc:∀c∈ds,c.size=s) (h1:∀c∈ds,c.all (·.oneCell')=true) (hu:Tryz.prog.underlying t=some (.slice e)) (hi:(Tryz.prog.info? e).map (fun i=>(i.zero,i.size,i.bytes))=some (some z,s,by_))
  (hzs:z.cells.size=s) (hsz:0<s) (hlen:cs.length+ds.length<=1000000) (hby:by_<=1000000)
  (h:∀v' w',bP B e s v' (cs++ds) w'->w.grownBy w' v.ownBlock->(v'.ownBlock=v.ownBlock\/∃g',v'.ownBlock=some g'/\w.heap.size<=g')->K (a.put o.dst v') w'):o.wp Tryz.prog a w K Q:=by
 subst hm;obtain⟨i,hi0,hz,h2,h3⟩:=dV hi;have hbytes:(cs.length+ds.length)*by_<=140737488355328:=by
  exact Aj1
 have hfl:(ds.flatMap Array.toList).length=ds.length*s:=sG s ds hc;have hone:∀u∈ds.flatMap Array.toList,u.oneCell'=true:=fun u hu=>by
  obtain⟨c,hc1,hc2⟩:=aJE.1 hu;exact(cO.1 (h1 c hc1)) u (by simpa using hc2)
 obtain⟨v',w',hr,g1,g2,_⟩:=aCj (P:=Tryz.prog) w B t o.type e i z s by_ hu hi0 hz h2 h3 hzs hsz v cs.length (cs.flatMap Array.toList) hb.1 ad ds.length cc (ds.flatMap Array.toList) hfl hg hone uCw hbytes hb.2.1;have hnew:=aAx t o.type e i z s by_ hu hi0 hz h2 h3 hzs hsz v cs.length (cs.flatMap Array.toList) hb.1 ad ds.length cc (ds.flatMap Array.toList) hfl hg hone uCw hbytes v' w' hr;unfold Oper.wp execOp;simp only[ho,resolve,invoke,builtin,fF,fR,cS,iA,cG,iL,hs,hx,hr];refine h v' w' ⟨?_,aG hb.2.1 g2.size,fun x hx=> ?_⟩ g2 hnew
 ·rw[aD,gF]
  exact g1
 ·rcases cP.1 hx with hx|hx
  ·exact hb.2.2 x hx
  ·exact hc x hx
theorem aCT {o:Oper} {a:Act} {K:Act->World->Prop} {Q:Exit->Act->World->Prop} {w:World} (t e:TypeId) (p q:Operand)
  (ho:o.op=.call {callee:=.builtin .append,args:=#[p,q],argTypes:=#[t,t]})
  {B s by_:Nat} {z v:Value} {cs:List (Array Value)} {c:Array Value} (hs:a.eval p=v) (hb:bP B e s v cs w) (g cc:Nat) (hx:a.eval q=.slice (some ⟨g,0,none⟩) 1 cc) {fr:Nat×Nat}
  (hg:w.heap[g]? =some (.cells c e fr)) (hc:c.size=s) (h1:c.all (·.oneCell')=true) (hu:Tryz.prog.underlying t=some (.slice e)) (hi:(Tryz.prog.info? e).map (fun i=>(i.zero,i.size,i.bytes))=some (some z,s,by_))
  (hzs:z.cells.size=s) (hsz:0<s) (hlen:cs.length<=900000) (hby:by_<=1000000)
  (h:∀v' w',bP B e s v' (cs++[c]) w'->w.grownBy w' v.ownBlock->(v'.ownBlock=v.ownBlock\/∃g',v'.ownBlock=some g'/\w.heap.size<=g')->K (a.put o.dst v') w'):o.wp Tryz.prog a w K Q:=
 aKk t e p q ho hs hb ⟨g,0,none⟩ cc 1 rfl hx (fun j u hj=>by
  have e:(⟨g,0,none⟩:Addr).add j=⟨g,j,none⟩:=by unfold Addr.add;split<;>simp_all
  rw[e];exact aK hg uDx) (fun x hx=>by simp at hx;subst hx;exact hc) (fun x hx=>by simp at hx;subst hx;exact h1) hu hi hzs hsz uDv hby h
theorem bP.lsT {B:Nat} {e:TypeId} {s:Nat} {v:Value} {cs:List (Array Value)} {w:World} (h:bP B e s v cs w):LsT (fun g=>v.ownBlock=some g) w e s v (cs.flatMap Array.toList) cs.length:=by
 obtain⟨⟨h1,h2⟩,_,_⟩:=h;rcases h2 with⟨rfl,h2⟩|⟨g,cap,cur,fz,rfl,a2,a3,a4,a5,a6,a7,a8⟩
 ·rw[h2]at h1 ⊢
  exact⟨h1,aQ _,none,0,rfl,aE _,.inl ⟨rfl,rfl⟩⟩
 ·refine⟨h1,by omega,_,cap,rfl,a5,.inr ⟨g,0,cur,fz,rfl,rfl,a3,fun j u hu=> ?_⟩⟩
  rw[<-a8]at hu;rw[dL];have hj:=(List.getElem?_eq_some_iff.1 hu).1;rw[List.getElem?_take_of_lt (by rw[aV]at hj;omega)]at hu;simpa using hu
end Go.Proofs.YtengibnpebfblaaGreatDoor
namespace Go.Proofs.YtengibnpebfblaaGreatDoor
open Go.RowKit
def dC (B:Nat) (e:TypeId) (s:Nat) (v:Value) (cs:List (Array Value)) (w:World):Prop:=
 w.ownsRow B e s v cs.length (cs.flatMap Array.toList)/\B<=w.heap.size/\∀c∈cs,c.size=s
section
variable {B : Nat} {e : TypeId} {s : Nat} {v : Value} {cs : List (Array Value)} {w w' : World}
theorem dC.own (h:dC B e s v cs w):bP B e s v cs w:=⟨nM h.1,h.2⟩
theorem dC.nil (h:B<=w.heap.size):dC B e s (.slice none 0 0) [] w:=⟨rI _ _ _ _,h,fun _ h=>by cases h⟩
theorem dC.grown {row:Option Nat} (h:dC B e s v cs w) (hg:w.grownBy w' row) (hne:v.ownBlock=none\/v.ownBlock≠row):dC B e s v cs w':=
 ⟨h.1.kept hg hne,aG h.2.1 hg.size,h.2.2⟩
theorem dC.later (h:dC B e s v cs w) (hb:Below w.heap.size w w'):dC B e s v cs w':=h.grown (row:=none) ⟨hb.os,hb.tape,hb.output,hb.size,fun k hk _=>hb.block k hk⟩ uGx
theorem dC.block (h:dC B e s v cs w) (hk:∀g o,v.ownBlock=some g->w.heap[g]? =some o->w'.heap[g]? =some o) (hs:w.heap.size<=w'.heap.size):dC B e s v cs w':=by
 obtain⟨⟨h1,h2⟩,h3,h4⟩:=h;refine⟨⟨h1,h2.imp_right ?_⟩,aG h3 hs,h4⟩;rintro⟨g,cap,cur,rfl,a2,a3,a4⟩;exact⟨g,cap,cur,rfl,a2,hk g _ rfl a3,a4⟩
theorem dC.ikw {Ts:TypeId->Prop} {Y:Nat} (h:dC B e s v cs w) (k:IKW Ts Y w w') (he:Ts e):dC B e s v cs w':=by
 obtain⟨⟨h1,h2⟩,h3,h4⟩:=h;refine⟨⟨h1,h2.imp_right ?_⟩,aG h3 k.1,h4⟩;rintro⟨g,cap,cur,rfl,a2,a3,a4⟩;exact⟨g,cap,cur,rfl,a2,k.2.2 _ _ _ _ a3 he,a4⟩
theorem bP.shape' (h:bP B e s v cs w):∃a c,v=.slice a cs.length c:=by
 exact Ah9
theorem dC.at_ (h:dC B e s v cs w) (hn:cs≠[]):∃g cap cur,v=.slice (some ⟨g,0,none⟩) cs.length cap/\B<=g/\w.heap[g]? =some (.cells cur e (0,0))/\cs.length<=cap/\cur.size=cap*s/\cur.toList.take (cs.length*s)=cs.flatMap Array.toList:=by
 obtain⟨⟨_,h2⟩,_,_⟩:=h;rcases h2 with⟨_,h2⟩|⟨g,cap,cur,rfl,a2,a3,a4,a5,a6,a7⟩
 ·exact absurd (aT h2) hn
 ·exact⟨g,cap,cur,rfl,a2,a3,a4,a6,a7⟩
end
theorem oR {o:Oper} {a:Act} {K:Act->World->Prop} {Q:Exit->Act->World->Prop} {w:World} (t e:TypeId) (p q:Operand)
  (ho:o.op=.call {callee:=.builtin .append,args:=#[p,q],argTypes:=#[t,t]})
  {B s by_:Nat} {z v:Value} {cs:List (Array Value)} {c:Array Value} (hs:a.eval p=v) (hb:dC B e s v cs w) (g cc:Nat) (hx:a.eval q=.slice (some ⟨g,0,none⟩) 1 cc) {fr:Nat×Nat}
  (hg:w.heap[g]? =some (.cells c e fr)) (hc:c.size=s) (h1:c.all (·.oneCell')=true) (hu:Tryz.prog.underlying t=some (.slice e)) (hi:(Tryz.prog.info? e).map (fun i=>(i.zero,i.size,i.bytes))=some (some z,s,by_))
  (hzs:z.cells.size=s) (hsz:0<s) (hlen:cs.length<=900000) (hby:by_<=1000000)
  (h:∀v' w',dC B e s v' (cs++[c]) w'->w.grownBy w' v.ownBlock->(v'.ownBlock=v.ownBlock\/∃g',v'.ownBlock=some g'/\w.heap.size<=g')->K (a.put o.dst v') w'):o.wp Tryz.prog a w K Q:=by
 obtain⟨i,hi0,hz,h2,h3⟩:=dV hi;have hcell:∀j u,c.toList[j]? =some u->w.cell? ((⟨g,0,none⟩:Addr).add j)=some u:=fun j u hj=>by
  exact Ah3
 have hbytes:(cs.length+1)*by_<=140737488355328:=by
  have:(cs.length+1)*by_<=1000000*1000000:=wW uAu hby;omega
 have hone:∀u∈c.toList,u.oneCell'=true:=fun u hu=>(cO.1 h1) u uNy
 obtain⟨v',w',hr,g1,g2,_⟩:=run_append_own (P:=Tryz.prog) w B t o.type e i z s by_ hu hi0 hz h2 h3 hzs hsz v cs.length (cs.flatMap Array.toList) hb.1 ⟨g,0,none⟩ 1 cc c.toList (by simp[hc]) hcell hone uCw hbytes hb.2.1;have hnew:=aAx t o.type e i z s by_ hu hi0 hz h2 h3 hzs hsz v cs.length (cs.flatMap Array.toList) (nM hb.1) ⟨g,0,none⟩ 1 cc c.toList (by simp[hc]) hcell hone uCw hbytes v' w' hr;unfold Oper.wp execOp;simp only[ho,resolve,invoke,builtin,fF,fR,cS,iA,cG,iL,hs,hx,hr];refine h v' w' ⟨?_,aG hb.2.1 g2.size,fun x hx=> ?_⟩ g2 hnew
 ·rw[aD,gF]
  simpa using g1
 ·exact Ai6
theorem aF3 {o:Oper} {a:Act} {w:World} {K:Act->World->Prop} {Q:Exit->Act->World->Prop} (ty:TypeId) (x y:Operand) (ho:o.op=.store ty x y) {B s:Nat} {v:Value} {cs:List (Array Value)} {z c:Array Value}
  (hb:dC B ty s v (cs++[z]) w) (g cap n k:Nat) (hv:v=.slice (some ⟨g,0,none⟩) n cap) (hk:k=cs.length*s) (hx:a.eval x=.pointer (some ⟨g,k,none⟩)) (hy:a.eval y=.agg c) (hc:c.size=s) (h1:c.all (·.oneCell')=true)
  (hi:(Tryz.prog.info? ty).map (·.size)=some s)
  (h:∀w',dC B ty s v (cs++[c]) w'->jK g w w'->K (a.put o.dst undef) w'):o.wp Tryz.prog a w K Q:=by
 obtain⟨g',cap',cur,hv',hB,hg,hn,hcs,htk⟩:=hb.at_ uBu;have hs5:=hb.2.2;rw[hv']at hv;simp only[dR,cC,nB,aAA]at hv;obtain⟨rfl,hn',rfl⟩:=hv;subst hk;rw[aD,bM]at hn htk;have hms:(cs.length+1)*s<=cap'*s:=dE _ hn;have hsu:(cs.length+1)*s=cs.length*s+s:=by rw[gW,Nat.one_mul]
 have hfl:(cs.flatMap Array.toList).length=cs.length*s:=sG s cs fun x hx=>hs5 x (nU _ hx)
 have hcl:cur.toList.length=cap'*s:=by rw[bB,hcs]
 have e1:cur.toList.take (cs.length*s)=cs.flatMap Array.toList:=by
  have h1:=bH (List.take (cs.length*s)) htk;rw[List.take_take,gA uAu,gF,List.take_left' hfl]at h1;exact h1
 have hc5:c.toList.length=s:=by rw[bB,hc]
 refine zV ty x y ho g' (cs.length*s) c hx hy ty cur hg (by rw[hi,hc]) (by rw[hcs,hc];omega) h1 _ rfl fun w' h2 h3=>h w' ⟨⟨?_,.inr ⟨g',cap',_,?_,hB,h2,?_,hb.1.2.elim (fun h=>absurd h.2 uBu) (fun⟨_,_,_,e,_,_,_,h6,_⟩=>by rw[hv']at e;simp only[dR]at e;rw[e.2.2];exact h6),?_,?_⟩⟩,aG hb.2.1 (by rw[h3.size];exact aE _),fun z' hz'=> ?_⟩ h3
 ·rw[sG s (cs++[c]) fun x hx=> ?_]
  rcases cP.1 hx with hx|hx
  ·exact hs5 x (nU _ hx)
  ·simp at hx;subst hx;exact hc
 ·rw[hv'];simp
 ·simp;omega
 ·simp only[cA,aD,aV,bS,hcl,bB,hc]
  omega
 ·rw[e1,aD,bM,gF]
  simp only[cN,List.flatMap_nil,mX];rw[mL (by rw[aD,hfl,hc5];omega),aZ (by rw[aD,hfl,hc5];omega)]
 ·rcases cP.1 hz' with hx|hx
  ·exact hs5 z' (nU _ hx)
  ·simp at hx;subst hx;exact hc
def jW (B X:Nat) (kv xv:Value) (V:World) (g:Nat):Prop:=B<=g/\g<V.heap.size/\g≠X/\kv.ownBlock≠some g/\xv.ownBlock≠some g
structure fC (B X:Nat) (k n:Int) (t:ByteArray) (ks:List ByteArray) (bx kv xv:Value) (css:List (Array Value)) (ys:List Tr) (V:World):Prop where
 low:B<=X
 box:V.heap[X]? =some (.cells (trC k n t kv bx) 28 (0,0))
 keys:bP B 9 1 kv (ks.map fun y=> #[.string y]) V
 items:dC B 28 5 xv css V
 apart:xv.ownBlock≠some X
 parts:iS (jW B X kv xv V) V ys (css.take ys.length)
section
variable {B X : Nat} {k n : Int} {t : ByteArray} {ks : List ByteArray} {bx kv xv kv' xv' : Value} {css : List (Array Value)} {ys : List Tr} {V V' V'' : World}
theorem bP.neX {e T:TypeId} {s:Nat} {v:Value} {cs:List (Array Value)} {fr:Nat×Nat} {c:Array Value} (h:bP B e s v cs V) (hb:V.heap[X]? =some (.cells c T fr)) (hT:e≠T):v.ownBlock≠some X:=by
 rcases h.own with h1|⟨g,cur,fz,h1,h2,h3⟩
 ·rw[h1];simp
 ·intro h'
  rw[h1]at h';obtain rfl:=aN h';rw[hb]at h3;simp only[cC,dU]at h3;exact hT h3.2.1.symm
theorem bP.lt {e:TypeId} {s:Nat} {v:Value} {cs:List (Array Value)} {g:Nat} (h:bP B e s v cs V) (hg:v.ownBlock=some g):B<=g/\g<V.heap.size:=by
 rcases h.own with h1|⟨g',cur,fz,h1,h2,h3⟩
 ·rw[h1]at hg;cases hg
 ·rw[h1]at hg
  obtain rfl:=aN hg;exact⟨h2,(gZ h3)⟩
theorem bP.apart2 {e T:TypeId} {s s':Nat} {v u:Value} {cs ds:List (Array Value)} {g:Nat} (h:bP B e s v cs V) (h':bP B T s' u ds V) (hT:e≠T) (hg:v.ownBlock=some g):u.ownBlock≠some g:=by
 rcases h.own with h1|⟨g',cur,fz,h1,h2,h3⟩
 ·rw[h1]at hg;cases hg
 ·rw[h1]at hg
  obtain rfl:=aN hg;exact h'.neX h3 (fun e=>hT e.symm)
theorem fC.moved (h:fC B X k n t ks bx kv xv css ys V) (hs:V.heap.size<=V'.heap.size) (hk:∀(g:Nat) (cs:Array Value) (T:TypeId) (fr:Nat×Nat),(T=9\/T=28)->V.heap[g]? =some (.cells cs T fr)->B<=g->V'.heap[g]? =some (.cells cs T fr)):fC B X k n t ks bx kv xv css ys V' where
 low:=h.low
 box:=hk _ _ _ _ (.inr rfl) h.box h.low
 keys:=by
  obtain⟨⟨h1,h2⟩,h3,h4⟩:=h.keys;refine⟨⟨h1,h2.imp_right ?_⟩,aG h3 hs,h4⟩;rintro⟨g,cap,cur,fz,a1,a2,a3,a4⟩;exact⟨g,cap,cur,fz,a1,a2,hk _ _ _ _ (.inl rfl) a3 a2,a4⟩
 items:=by
  obtain⟨⟨h1,h2⟩,h3,h4⟩:=h.items;refine⟨⟨h1,h2.imp_right ?_⟩,aG h3 hs,h4⟩;rintro⟨g,cap,cur,a1,a2,a3,a4⟩;exact⟨g,cap,cur,a1,a2,hk _ _ _ _ (.inr rfl) a3 a2,a4⟩
 apart:=h.apart
 parts:=h.parts.imp (fun g cur T fr hg hT e=>hk g cur T fr hT e hg.1) fun g hg _=>⟨hg.1,cQ hg.2.1 hs,hg.2.2⟩
theorem fC.later (h:fC B X k n t ks bx kv xv css ys V) (hb:Below V.heap.size V V'):fC B X k n t ks bx kv xv css ys V':=h.moved hb.size fun g _ _ _ _ e _=>(hb.block g (gZ e)).trans e
theorem fC.ikw {Ts:TypeId->Prop} {Y:Nat} (h:fC B X k n t ks bx kv xv css ys V) (hi:IKW Ts Y V V') (h1:Ts 9) (h2:Ts 28):fC B X k n t ks bx kv xv css ys V':=h.moved hi.1 fun g cs T fr hT e _=>hi.2.2 g cs T fr e (by rcases hT with rfl|rfl<;>assumption)
theorem fC.key (h:fC B X k n t ks bx kv xv css ys V) (y:ByteArray) (hr:bP B 9 1 kv' ((ks.map fun y=> #[.string y])++[#[.string y]]) V') (hg:V.grownBy V' kv.ownBlock) (hn:kv'.ownBlock=kv.ownBlock\/∃g',kv'.ownBlock=some g'/\V.heap.size<=g')
  (ho:V'.grownBy V'' (some X)) (hx:V''.heap[X]? =some (.cells (trC k n t kv' bx) 28 (0,0))):fC B X k n t (ks++[y]) bx kv' xv css ys V'':=by
 have hXl:=(gZ h.box)
 have hkX:=h.keys.neX h.box uAv;have hbox':V'.heap[X]? =some (.cells (trC k n t kv bx) 28 (0,0)):=(hg.block X hXl (fun e=>hkX e.symm)).trans h.box;have hki:∀g,kv.ownBlock=some g->xv.ownBlock≠some g:=fun g hg=>h.keys.apart2 h.items.own uAv hg
 have hkX':kv'.ownBlock≠some X:=by
  rcases hn with e|⟨g',e,hge⟩
  ·rw[e];exact hkX
  ·rw[e];intro e';have:=aN e';omega
 have hitm:dC B 28 5 xv css V':=h.items.grown hg (by
  cases hx:xv.ownBlock with
  |none=>exact .inl rfl
  |some g=>exact .inr fun e=>hki g e.symm hx)
 have hno:∀g,jW B X kv xv V g->jW B X kv' xv V'' g:=fun g ⟨a1,a2,a3,a4,a5⟩=>⟨a1,by have:=hg.size;have:=ho.size;omega,a3,by
  rcases hn with e|⟨g',e,hge⟩
  ·rw[e];exact a4
  ·rw[e];intro e';have:=aN e';omega,a5⟩
 refine⟨h.low,hx,?_,hitm.grown ho (.inr h.apart),h.apart,h.parts.imp ((KT.grown hg fun Y e hY=>hY.2.2.2.1 e).trans (KT.grown ho fun Y e hY=> ?_)) fun g hg _=>hno g hg⟩
 ·rw[bQ]
  exact hr.grown ho (.inr hkX')
 ·cases e;exact hY.2.2.1 rfl
theorem fC.grew (h:fC B X k n t ks bx kv xv css ys V) (hl:css.length=ys.length) {z:Array Value} (hr:dC B 28 5 xv' (css++[z]) V') (hg:V.grownBy V' xv.ownBlock) (hn:xv'.ownBlock=xv.ownBlock\/∃g',xv'.ownBlock=some g'/\V.heap.size<=g'):
  fC B X k n t ks bx kv xv' (css++[z]) ys V'/\∀{a:Tr} {v:Value},TrS (jW B X kv xv V) V a v->TrS (jW B X kv xv' V') V' a v:=by
 have hXl:=(gZ h.box)
 have hki:∀g,kv.ownBlock=some g->xv.ownBlock≠some g:=fun g hg=>h.keys.apart2 h.items.own uAv hg
 have hno:∀g,jW B X kv xv V g->jW B X kv xv' V' g:=fun g ⟨a1,a2,a3,a4,a5⟩=>⟨a1,by have:=hg.size;omega,a3,a4,by
  rcases hn with e|⟨g',e,hge⟩
  ·rw[e];exact a5
  ·rw[e];intro e';have:=aN e';omega⟩
 have hkt:KT (jW B X kv xv V) V V':=KT.grown hg fun Y e hY=>hY.2.2.2.2 e
 refine⟨⟨h.low,(hg.block X hXl (fun e=>h.apart e.symm)).trans h.box,?_,hr,?_,?_⟩,fun ht=>ht.imp hkt fun g hg _=>hno g hg⟩
 ·refine h.keys.grown hg ?_
  cases hx:kv.ownBlock with
  |none=>exact .inl rfl
  |some g=>exact .inr fun e=>hki g hx e.symm
 ·rcases hn with e|⟨g',e,hge⟩
  ·rw[e];exact h.apart
  ·rw[e];intro e';have:=aN e';omega
 ·have:=h.parts
  rw[<-hl,aZ (aE _)]at this;rw[<-hl,mB];exact this.imp hkt fun g hg _=>hno g hg
theorem fC.stored {z:Array Value} (h:fC B X k n t ks bx kv xv (css++[z]) ys V) (hl:css.length=ys.length) {c:Array Value} {g:Nat} (hg:xv.ownBlock=some g) (hr:dC B 28 5 xv (css++[c]) V') (ho:jK g V V'):
  fC B X k n t ks bx kv xv (css++[c]) ys V'/\∀{a:Tr} {v:Value},TrS (jW B X kv xv V) V a v->TrS (jW B X kv xv V') V' a v:=by
 have hXl:=(gZ h.box)
 have hki:kv.ownBlock≠some g:=fun e=>h.keys.apart2 h.items.own uAv e hg
 have hgX:X≠g:=fun e=>h.apart (by rw[hg,e])
 have hno:∀g,jW B X kv xv V g->jW B X kv xv V' g:=fun g ⟨a1,a2,a3,a4,a5⟩=>⟨a1,by rw[ho.size];exact a2,a3,a4,a5⟩
 have hkt:KT (jW B X kv xv V) V V':=KT.grown ho.by_ fun Y e hY=>by cases e;exact hY.2.2.2.2 hg
 refine⟨⟨h.low,ho.other h.box hgX,h.keys.grown ho.by_ (.inr hki),hr,h.apart,?_⟩,fun ht=>ht.imp hkt fun g hg _=>hno g hg⟩;have:=h.parts;rw[<-hl,mB]at this ⊢;exact this.imp hkt fun g hg _=>hno g hg
theorem fC.boxed (h:fC B X k n t ks bx kv xv css ys V) (ho:jK X V V') {bx':Value} (hx:V'.heap[X]? =some (.cells (trC k n t kv bx') 28 (0,0))):
  fC B X k n t ks bx' kv xv css ys V'/\∀{a:Tr} {v:Value},TrS (jW B X kv xv V) V a v->TrS (jW B X kv xv V') V' a v:=by
 have hkX:=h.keys.neX h.box uAv;have hno:∀g,jW B X kv xv V g->jW B X kv xv V' g:=fun g ⟨a1,a2,a3,a4,a5⟩=>⟨a1,by rw[ho.size];exact a2,a3,a4,a5⟩
 have hkt:KT (jW B X kv xv V) V V':=KT.grown ho.by_ fun Y e hY=>by cases e;exact hY.2.2.1 rfl
 exact⟨⟨h.low,hx,h.keys.grown ho.by_ (.inr hkX),h.items.grown ho.by_ (.inr h.apart),h.apart,h.parts.imp hkt fun g hg _=>hno g hg⟩,fun ht=>ht.imp hkt fun g hg _=>hno g hg⟩
theorem fC.part {y:Tr} {c:Array Value} (h:fC B X k n t ks bx kv xv (css++[c]) ys V) (hl:css.length=ys.length) (hc:c.size=5) (hy:TrS (jW B X kv xv V) V y (.agg c)):fC B X k n t ks bx kv xv (css++[c]) (ys++[y]) V where
 low:=h.low
 box:=h.box
 keys:=h.keys
 items:=h.items
 apart:=h.apart
 parts:=by
  have:=h.parts;rw[<-hl,mB]at this;rw[aZ uDv];exact uI this (aBa hc hy)
theorem fC.news {a:Tr} {v:Value} (h:fC B X k n t ks bx kv xv css ys V) (ht:TrS (fun g=>V.heap.size<=g) V' a v):TrS (jW B X kv xv V') V' a v:=by
 have hXl:=(gZ h.box)
 have:=h.low;refine ht.imp KT.refl fun g hg hl=>⟨by omega,hl,by omega,fun e=> ?_,fun e=> ?_⟩
 ·have:=(h.keys.lt e).2;omega
 ·have:=(h.items.own.lt e).2;omega
theorem fC.news2 {a:Tr} {v:Value} {n₀:Nat} (h:fC B X k n t ks bx kv xv css ys V) (ht:TrS (fun g=>n₀<=g) V a v) (hX:X<n₀) (h1:∀g,kv.ownBlock=some g->g<n₀) (h2:∀g,xv.ownBlock=some g->g<n₀):TrS (jW B X kv xv V) V a v:=by
 have:=h.low;refine ht.imp KT.refl fun g hg hl=>⟨by omega,hl,by omega,fun e=> ?_,fun e=> ?_⟩
 ·have:=h1 g e;omega
 ·have:=h2 g e;omega
theorem pX:∀ks:List ByteArray,(ks.map fun y=>(#[.string y]:Array Value)).flatMap Array.toList=ks.map Value.string
 |[]=>rfl
 |a::l=>by rw[cG,cN,pX l];rfl
theorem fC.tree (h:fC B X k n t ks xv kv xv css ys V) (hl:css.length=ys.length) (ht:t.size<=maxLen) (hk:InR k) (hn:InR n):TrS (fun g=>B<=g) V (.nd k n t ks ys) (.agg (trC k n t kv xv)):=by
 have h1:=h.keys.lsT;have h2:=h.items.own.lsT;have h3:=h.parts;rw[aZ uAu]at h3;rw[TrS];refine⟨kv,xv,css,rfl,ht,hk,hn,?_,?_,h3.weak fun g hg=>hg.1⟩
 ·rw[pX,aH]at h1
  exact h1.imp (.inl rfl) KT.refl fun g hg _=>(h.keys.lt hg).1
 ·rw[hl]at h2
  exact h2.imp (.inr rfl) KT.refl fun g hg _=>(h.items.own.lt hg).1
end
end Go.Proofs.YtengibnpebfblaaGreatDoor
