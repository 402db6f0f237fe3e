import Derived.Test.YtengibnpebfblaaGreatDoorB28
set_option maxRecDepth 1000000
set_option maxHeartbeats 8000000
set_option linter.unusedSimpArgs false
namespace Go.Proofs.YtengibnpebfblaaGreatDoor
open Go.RowKit
def LsT (S:Nat->Prop) (W:World) (T:TypeId) (s:Nat) (v:Value) (cs:List Value) (n:Nat):Prop:=
 cs.length=n*s/\n<=maxLen/\∃(a:Option Addr) (c:Nat),v=.slice a n c/\n<=c/\((a=none/\c=0)\/∃(g o:Nat) (cur:Array Value) (fr:Nat×Nat),a=some ⟨g,o,none⟩/\S g/\W.heap[g]? =some (.cells cur T fr)/\∀(j:Nat) (u:Value),cs[j]? =some u->cur[o+j]? =some u)
def KT (S:Nat->Prop) (w w':World):Prop:=∀(g:Nat) (cur:Array Value) (T:TypeId) (fr:Nat×Nat),S g->(T=9\/T=28)->w.heap[g]? =some (.cells cur T fr)->w'.heap[g]? =some (.cells cur T fr)
mutual
def TrS (S:Nat->Prop) (W:World):Tr->Value->Prop
 | .nd k n t ks xs,v=>∃(kv xv:Value) (css:List (Array Value)),v=.agg (trC k n t kv xv)/\t.size<=maxLen/\InR k/\InR n/\LsT S W 9 1 kv (ks.map Value.string) ks.length/\LsT S W 28 5 xv (css.flatMap Array.toList) xs.length/\TrSL S W xs css
def TrSL (S:Nat->Prop) (W:World):List Tr->List (Array Value)->Prop
 |[],l=>l=[]
 |x::r,l=>∃c l',l=c::l'/\c.size=5/\TrS S W x (.agg c)/\TrSL S W r l'
end
section
variable {S S' : Nat → Prop} {W W' W'' : World} {T : TypeId} {s n : Nat} {v : Value} {cs : List Value}
theorem KT.refl:KT S W W:=fun _ _ _ _ _ _ h=>h
theorem KT.trans (h:KT S W W') (k:KT S W' W''):KT S W W'':=fun g cur T fr hg hT e=>k g cur T fr hg hT (h g cur T fr hg hT e)
theorem KT.weak (h:KT S' W W') (hS:∀g,S g->S' g):KT S W W':=fun g cur T fr hg=>h g cur T fr (hS g hg)
theorem KT.later (hb:Below W.heap.size W W'):KT S W W':=fun g _ _ _ _ _ h=>(hb.block g (gZ h)).trans h
theorem KT.low {n₀:Nat} (hb:Below n₀ W W') (hS:∀g,S g->g<n₀):KT S W W':=fun g _ _ _ hg _ h=>(hb.block g (hS g hg)).trans h
theorem KT.grown {row:Option Nat} (hg:W.grownBy W' row) (hX:∀X,row=some X->¬S X):KT S W W':=fun g _ _ _ hS _ h=>(hg.block g (gZ h) (fun e=>hX g e.symm hS)).trans h
theorem KT.other {X:Nat} {cur:Array Value} {T:TypeId} {fr:Nat×Nat} (hg:W.grownBy W' (some X)) (hX:W.heap[X]? =some (.cells cur T fr)) (h1:T≠9) (h2:T≠28):KT S W W':=fun g c T' f' _ hT h=>
 (hg.block g (gZ h) (fun e=>by
  cases e
  rw[hX]at h;cases h
  rcases hT with hT|hT
  ·exact h1 hT
  ·exact h2 hT)).trans h
theorem LsT.imp (h:LsT S W T s v cs n) (hT:T=9\/T=28) (k:KT S W W') (hS:∀g,S g->g<W.heap.size->S' g):LsT S' W' T s v cs n:=by
 obtain⟨h1,h2,a,c,h3,h4,h5⟩:=h;refine⟨h1,h2,a,c,h3,h4,h5.imp_right ?_⟩;rintro⟨g,o,cur,fr,e,hg,hb,h⟩;exact⟨g,o,cur,fr,e,hS g hg (gZ hb),k g cur T fr hg hT hb,h⟩
theorem lsT_nil (S:Nat->Prop) (W:World) (T:TypeId) (s:Nat):LsT S W T s (.slice none 0 0) [] 0:=⟨by simp,Nat.zero_le _,none,0,rfl,Nat.le_refl _,.inl ⟨rfl,rfl⟩⟩
theorem trSL_len:∀{xs:List Tr} {l:List (Array Value)},TrSL S W xs l->l.length=xs.length
 |[],l,h=>by rw[TrSL]at h;subst h;rfl
 |x::r,l,h=>by
  rw[TrSL]at h;obtain⟨c,l',rfl,_,_,h⟩:=h;rw[List.length_cons,List.length_cons,trSL_len h]
theorem trSL_at:∀{xs:List Tr} {l:List (Array Value)} {j:Nat} (_:TrSL S W xs l) (hj:j<xs.length) (hl:j<l.length),l[j].size=5/\TrS S W xs[j] (.agg l[j])
 |[],_,_,_,hj,_=>by simp at hj
 |x::r,l,0,h,_,_=>by
  rw[TrSL]at h;obtain⟨c,l',rfl,h0,h,_⟩:=h;exact⟨h0,h⟩
 |x::r,l,j+1,h,hj,hl=>by
  rw[TrSL]at h;obtain⟨c,l',rfl,_,_,h⟩:=h;exact trSL_at h (by simpa using hj) (by simpa using hl)
theorem trSL_of:∀{xs:List Tr} {l:List (Array Value)},l.length=xs.length->(∀j (hj:j<xs.length) (hl:j<l.length),l[j].size=5/\TrS S W xs[j] (.agg l[j]))->TrSL S W xs l
 |[],l,h,_=>by rw[TrSL];exact List.eq_nil_of_length_eq_zero h
 |x::r,[],h,_=>by simp at h
 |x::r,c::l,h,hv=>by
  rw[TrSL];exact⟨c,l,rfl,(hv 0 (by simp) (by simp)).1,(hv 0 (by simp) (by simp)).2,trSL_of (by simpa using h) fun j hj hl=>hv (j+1) (by simpa using hj) (by simpa using hl)⟩
theorem trSL_app:∀{xs ys:List Tr} {l m:List (Array Value)},TrSL S W xs l->TrSL S W ys m->TrSL S W (xs++ys) (l++m)
 |[],_,l,m,h,hy=>by rw[TrSL]at h;subst h;exact hy
 |x::r,ys,l,m,h,hy=>by
  rw[TrSL]at h;obtain⟨c,l',rfl,h0,h1,h2⟩:=h;rw[List.cons_append,List.cons_append,TrSL];exact⟨c,_,rfl,h0,h1,trSL_app h2 hy⟩
theorem trSL_one {x:Tr} {c:Array Value} (hc:c.size=5) (h:TrS S W x (.agg c)):TrSL S W [x] [c]:=by
 rw[TrSL];exact⟨c,[],rfl,hc,h,by rw[TrSL]⟩
theorem trSL_size {xs:List Tr} {l:List (Array Value)} (h:TrSL S W xs l):∀c∈l,c.size=5:=by
 intro c hc;obtain⟨j,hj,rfl⟩:=List.mem_iff_getElem.1 hc;exact(trSL_at h (by rw[<-trSL_len h];exact hj) hj).1
theorem trS_imp (k:KT S W W') (hS:∀g,S g->g<W.heap.size->S' g) (a:Tr):∀v,TrS S W a v->TrS S' W' a v:=by
 induction a using tr_ind with
 |h kk n t ks xs ih=>
  intro v hv;rw[TrS]at hv ⊢;obtain⟨kv,xv,css,h1,h2,h3,h4,h5,h6,h7⟩:=hv;exact⟨kv,xv,css,h1,h2,h3,h4,h5.imp (.inl rfl) k hS,h6.imp (.inr rfl) k hS,trSL_of (trSL_len h7) fun j hj hl=>⟨(trSL_at h7 hj hl).1,ih _ (List.getElem_mem hj) _ (trSL_at h7 hj hl).2⟩⟩
end
section
variable {S S' : Nat → Prop} {w w' : World} {a : Tr} {v : Value} {xs : List Tr} {l : List (Array Value)}
theorem TrS.imp (h:TrS S w a v) (k:KT S w w') (hS:∀g,S g->g<w.heap.size->S' g):TrS S' w' a v:=trS_imp k hS a v h
theorem TrS.kept (h:TrS S w a v) (k:KT S w w'):TrS S w' a v:=h.imp k fun _ h _=>h
theorem TrS.later (h:TrS S w a v) (hb:Below w.heap.size w w'):TrS S w' a v:=h.kept (KT.later hb)
theorem TrS.weak (h:TrS S w a v) (hS:∀g,S g->S' g):TrS S' w a v:=h.imp KT.refl fun g h _=>hS g h
theorem TrS.old (h:TrS S w a v):TrS (fun g=>S g/\g<w.heap.size) w a v:=h.imp KT.refl fun _ h h'=>⟨h,h'⟩
theorem TrSL.imp (h:TrSL S w xs l) (k:KT S w w') (hS:∀g,S g->g<w.heap.size->S' g):TrSL S' w' xs l:=
 trSL_of (trSL_len h) fun _ hj hl=>⟨(trSL_at h hj hl).1,(trSL_at h hj hl).2.imp k hS⟩
theorem TrSL.later (h:TrSL S w xs l) (hb:Below w.heap.size w w'):TrSL S w' xs l:=h.imp (KT.later hb) fun _ h _=>h
theorem TrSL.weak (h:TrSL S w xs l) (hS:∀g,S g->S' g):TrSL S' w xs l:=h.imp KT.refl fun g h _=>hS g h
theorem TrSL.old (h:TrSL S w xs l):TrSL (fun g=>S g/\g<w.heap.size) w xs l:=h.imp KT.refl fun _ h h'=>⟨h,h'⟩
theorem LsT.cell {T:TypeId} {s n:Nat} {cs:List Value} (h:LsT S w T s v cs n) (hn:0<n):∃(g o c:Nat),v=.slice (some ⟨g,o,none⟩) n c/\S g/\∀(j:Nat) (u:Value),cs[j]? =some u->w.cell? ⟨g,o+j,none⟩=some u:=by
 obtain⟨_,_,a,c,h3,h4,⟨_,h5⟩|⟨g,o,cur,fr,rfl,hS,hb,hc⟩⟩:=h
 ·omega
 ·exact⟨g,o,c,h3,hS,fun j u hu=>cell_in hb (hc j u hu)⟩
theorem trS_v (a:Tr):∀v,TrS S w a v->TrV w a v:=by
 induction a using tr_ind with
 |h k n t ks xs ih=>
  intro v hv;rw[TrS]at hv;obtain⟨kv,xv,css,h1,h2,h3,h4,h5,h6,h7⟩:=hv;have hl:=trSL_len h7;have hsz:=trSL_size h7;rw[TrV];refine⟨kv,xv,h1,h2,h3,h4,?_,?_⟩
  ·obtain⟨_,hm,ad,c,e,_,hr⟩:=h5
   rcases hr with⟨rfl,rfl⟩|⟨g,o,cur,fr,rfl,_,hb,hc⟩
   ·rcases Nat.eq_zero_or_pos ks.length with h0|h0
    ·exact⟨none,0,0,0,e,fun h=>by omega,fun j h=>by omega,hm⟩
    ·omega
   ·refine⟨_,c,g,o,e,fun _=>rfl,fun j hj=>cell_in hb (hc j _ (by rw[List.getElem?_map,List.getElem?_eq_getElem hj];rfl)),hm⟩
  ·obtain⟨_,hm,ad,c,e,_,hr⟩:=h6
   rcases hr with⟨rfl,rfl⟩|⟨g,o,cur,fr,rfl,_,hb,hc⟩
   ·rcases Nat.eq_zero_or_pos xs.length with h0|h0
    ·exact⟨none,0,0,0,e,fun h=>by omega,hm,trL_of fun j hj=>by omega⟩
    ·omega
   ·refine⟨_,c,g,o,e,fun _=>rfl,hm,trL_of fun j hj=> ?_⟩
    obtain⟨q1,q2⟩:=trSL_at h7 hj (by omega);refine⟨css[j],q1,fun i u hu=> ?_,ih _ (List.getElem_mem hj) _ q2⟩;have hi:i<5:=by have:=(List.getElem?_eq_some_iff.1 hu).1;rw[Array.length_toList,q1]at this;exact this
    have:=flat_get 5 css j i css[j] hsz (List.getElem?_eq_getElem (by omega)) hi;rw[show o+j*5+i=o+(j*5+i) by omega];refine cell_in hb (hc _ u ?_);rw[this];simpa using hu
theorem TrS.trv (h:TrS S w a v):TrV w a v:=trS_v a v h
end
theorem append_news {P:Program} {w:World} (t ty e:TypeId) (i:TypeInfo) (z:Value) (size bytes:Nat) (ht:P.underlying t=some (.slice e)) (hi:P.info? e=some i) (hz:i.zero=some z)
  (hsize:i.size=size) (hby:i.bytes=bytes) (hzs:z.cells.size=size) (hsz:0<size) {base:Nat}
  (v:Value) (n:Nat) (xs:List Value) (hown:w.ownsRowF base e size v n xs)
  (a:Addr) (m c:Nat) (news:List Value) (hl:news.length=m*size) (hnews:∀j u,news[j]? =some u->w.cell? (a.add j)=some u) (h1:∀u∈news,u.oneCell'=true)
  (h63:n+m<=maxLen) (hbytes:(n+m)*bytes<=140737488355328) (v':Value) (w':World) (hr':(Builtin.append_ #[t,t] ty #[v,.slice (some a) m c]).run P w=.ok v' w'):
  v'.ownBlock=v.ownBlock\/∃g',v'.ownBlock=some g'/\w.heap.size<=g':=by
 rcases hown.2 with⟨rfl,rfl⟩|⟨g,cap,cur,fz,rfl,hbg,hg,hfz,hnc,hcm,hcs,htake⟩
 ·obtain⟨v'',w'',r1,r2,_,_⟩:=run_append_own (P:=P) w w.heap.size t ty e i z size bytes ht hi hz hsize hby hzs hsz (.slice none 0 0) 0 xs ⟨hown.1,.inl ⟨rfl,rfl⟩⟩ a m c news hl hnews h1 h63 hbytes (Nat.le_refl _)
  rw[hr']at r1;obtain⟨rfl,rfl⟩:=Result.ok.inj r1;rcases r2.2 with⟨h,_⟩|⟨g,cap,cur,h,hg,_⟩
  ·left
   rw[h]
  ·right
   exact⟨g,by rw[h];rfl,hg⟩
 ·subst hsize
  subst hby;have hsmall:n+m<=9223372036854775807:=by simp only[maxLen]at h63;omega
  by_cases hroom:n+m<=cap
  ·have hfit:n*i.size+news.length<=cur.size:=by rw[hl,hcs,<-Nat.add_mul];exact Nat.mul_le_mul_right _ hroom
   have hr:=run_append_roomF (P:=P) w t ty e i ht hi g n cap cur fz hg hfz a m c news hl hnews h1 hroom hfit;rw[hr']at hr;left;rw[(Result.ok.inj hr).1];rfl
  ·have holds:∀j u,xs[j]? =some u->w.cell? ((⟨g,0,none⟩:Addr).add j)=some u:=hown.cells (g:=g) rfl
   have hr:=run_append_grow (P:=P) w t ty e i z ht hi hz ⟨g,0,none⟩ n cap xs hown.1 holds a m c news hl hnews (by omega) (by omega) (growslice_fits (by omega) hbytes);rw[hr']at hr;right;exact⟨w.heap.size,by rw[(Result.ok.inj hr).1];rfl,Nat.le_refl _⟩
theorem rowsN_wp {o:Oper} {a:Act} {K:Act->World->Prop} {Q:Exit->Act->World->Prop} {w:World} (t e:TypeId) (p q:Operand)
  (ho:o.op=.call {callee:=.builtin .append,args:=#[p,q],argTypes:=#[t,t]})
  {B s by_:Nat} {z v:Value} {cs ds:List (Array Value)} (hs:a.eval p=v) (hb:RowsOwn B e s v cs w) (ad:Addr) (cc m:Nat) (hm:m=ds.length) (hx:a.eval q=.slice (some ad) m cc)
  (hg:∀j u,(ds.flatMap Array.toList)[j]? =some u->w.cell? (ad.add j)=some u) (hc:∀c∈ds,c.size=s) (h1:∀c∈ds,c.all (·.oneCell')=true) (hu:Tryz.prog.underlying t=some (.slice e)) (hi:(Tryz.prog.info? e).map (fun i=>(i.zero,i.size,i.bytes))=some (some z,s,by_))
  (hzs:z.cells.size=s) (hsz:0<s) (hlen:cs.length+ds.length<=1000000) (hby:by_<=1000000)
  (h:∀v' w',RowsOwn B e s v' (cs++ds) w'->w.grownBy w' v.ownBlock->(v'.ownBlock=v.ownBlock\/∃g',v'.ownBlock=some g'/\w.heap.size<=g')->K (a.put o.dst v') w'):o.wp Tryz.prog a w K Q:=by
 subst hm;obtain⟨i,hi0,hz,h2,h3⟩:=info_parts hi;have hbytes:(cs.length+ds.length)*by_<=140737488355328:=by
  have:(cs.length+ds.length)*by_<=1000000*1000000:=Nat.mul_le_mul (by omega) hby;omega
 have hfl:(ds.flatMap Array.toList).length=ds.length*s:=flat_len' s ds hc;have hone:∀u∈ds.flatMap Array.toList,u.oneCell'=true:=fun u hu=>by
  obtain⟨c,hc1,hc2⟩:=List.mem_flatMap.1 hu;exact(Array.all_eq_true_iff_forall_mem.1 (h1 c hc1)) u (by simpa using hc2)
 obtain⟨v',w',hr,g1,g2,_⟩:=run_append_ownF (P:=Tryz.prog) w B t o.type e i z s by_ hu hi0 hz h2 h3 hzs hsz v cs.length (cs.flatMap Array.toList) hb.1 ad ds.length cc (ds.flatMap Array.toList) hfl hg hone (by unfold maxLen;omega) hbytes hb.2.1;have hnew:=append_news t o.type e i z s by_ hu hi0 hz h2 h3 hzs hsz v cs.length (cs.flatMap Array.toList) hb.1 ad ds.length cc (ds.flatMap Array.toList) hfl hg hone (by unfold maxLen;omega) hbytes v' w' hr;unfold Oper.wp execOp;simp only[ho,resolve,invoke,builtin,Sem.run_bind,Sem.run_pure,Result.andThen_ok,List.map_toArray,List.map_cons,List.map_nil,hs,hx,hr];refine h v' w' ⟨?_,Nat.le_trans hb.2.1 g2.size,fun x hx=> ?_⟩ g2 hnew
 ·rw[List.length_append,List.flatMap_append]
  exact g1
 ·rcases List.mem_append.1 hx with hx|hx
  ·exact hb.2.2 x hx
  ·exact hc x hx
theorem rowsN_one {o:Oper} {a:Act} {K:Act->World->Prop} {Q:Exit->Act->World->Prop} {w:World} (t e:TypeId) (p q:Operand)
  (ho:o.op=.call {callee:=.builtin .append,args:=#[p,q],argTypes:=#[t,t]})
  {B s by_:Nat} {z v:Value} {cs:List (Array Value)} {c:Array Value} (hs:a.eval p=v) (hb:RowsOwn B e s v cs w) (g cc:Nat) (hx:a.eval q=.slice (some ⟨g,0,none⟩) 1 cc) {fr:Nat×Nat}
  (hg:w.heap[g]? =some (.cells c e fr)) (hc:c.size=s) (h1:c.all (·.oneCell')=true) (hu:Tryz.prog.underlying t=some (.slice e)) (hi:(Tryz.prog.info? e).map (fun i=>(i.zero,i.size,i.bytes))=some (some z,s,by_))
  (hzs:z.cells.size=s) (hsz:0<s) (hlen:cs.length<=900000) (hby:by_<=1000000)
  (h:∀v' w',RowsOwn B e s v' (cs++[c]) w'->w.grownBy w' v.ownBlock->(v'.ownBlock=v.ownBlock\/∃g',v'.ownBlock=some g'/\w.heap.size<=g')->K (a.put o.dst v') w'):o.wp Tryz.prog a w K Q:=
 rowsN_wp t e p q ho hs hb ⟨g,0,none⟩ cc 1 rfl hx (fun j u hj=>by
  have e:(⟨g,0,none⟩:Addr).add j=⟨g,j,none⟩:=by unfold Addr.add;split<;>simp_all
  rw[e];exact cell_in hg (by simpa using hj)) (fun x hx=>by simp at hx;subst hx;exact hc) (fun x hx=>by simp at hx;subst hx;exact h1) hu hi hzs hsz (by simp;omega) hby h
theorem RowsOwn.lsT {B:Nat} {e:TypeId} {s:Nat} {v:Value} {cs:List (Array Value)} {w:World} (h:RowsOwn B e s v cs w):LsT (fun g=>v.ownBlock=some g) w e s v (cs.flatMap Array.toList) cs.length:=by
 obtain⟨⟨h1,h2⟩,_,_⟩:=h;rcases h2 with⟨rfl,h2⟩|⟨g,cap,cur,fz,rfl,a2,a3,a4,a5,a6,a7,a8⟩
 ·rw[h2]at h1 ⊢
  exact⟨h1,Nat.zero_le _,none,0,rfl,Nat.le_refl _,.inl ⟨rfl,rfl⟩⟩
 ·refine⟨h1,by omega,_,cap,rfl,a5,.inr ⟨g,0,cur,fz,rfl,rfl,a3,fun j u hu=> ?_⟩⟩
  rw[<-a8]at hu;rw[Nat.zero_add];have hj:=(List.getElem?_eq_some_iff.1 hu).1;rw[List.getElem?_take_of_lt (by rw[List.length_take]at hj;omega)]at hu;simpa using hu
end Go.Proofs.YtengibnpebfblaaGreatDoor
namespace Go.Proofs.YtengibnpebfblaaGreatDoor
open Go.RowKit
def RowsW (B:Nat) (e:TypeId) (s:Nat) (v:Value) (cs:List (Array Value)) (w:World):Prop:=
 w.ownsRow B e s v cs.length (cs.flatMap Array.toList)/\B<=w.heap.size/\∀c∈cs,c.size=s
section
variable {B : Nat} {e : TypeId} {s : Nat} {v : Value} {cs : List (Array Value)} {w w' : World}
theorem RowsW.own (h:RowsW B e s v cs w):RowsOwn B e s v cs w:=⟨World.ownsRowF_of h.1,h.2⟩
theorem RowsW.nil (h:B<=w.heap.size):RowsW B e s (.slice none 0 0) [] w:=⟨World.ownsRow_nil _ _ _ _,h,fun _ h=>by cases h⟩
theorem RowsW.grown {row:Option Nat} (h:RowsW B e s v cs w) (hg:w.grownBy w' row) (hne:v.ownBlock=none\/v.ownBlock≠row):RowsW B e s v cs w':=
 ⟨h.1.kept hg hne,Nat.le_trans h.2.1 hg.size,h.2.2⟩
theorem RowsW.later (h:RowsW B e s v cs w) (hb:Below w.heap.size w w'):RowsW B e s v cs w':=h.grown (row:=none) ⟨hb.os,hb.tape,hb.output,hb.size,fun k hk _=>hb.block k hk⟩ (by cases v.ownBlock<;>simp)
theorem RowsW.block (h:RowsW B e s v cs w) (hk:∀g o,v.ownBlock=some g->w.heap[g]? =some o->w'.heap[g]? =some o) (hs:w.heap.size<=w'.heap.size):RowsW B e s v cs w':=by
 obtain⟨⟨h1,h2⟩,h3,h4⟩:=h;refine⟨⟨h1,h2.imp_right ?_⟩,Nat.le_trans h3 hs,h4⟩;rintro⟨g,cap,cur,rfl,a2,a3,a4⟩;exact⟨g,cap,cur,rfl,a2,hk g _ rfl a3,a4⟩
theorem RowsW.ikw {Ts:TypeId->Prop} {Y:Nat} (h:RowsW B e s v cs w) (k:IKW Ts Y w w') (he:Ts e):RowsW B e s v cs w':=by
 obtain⟨⟨h1,h2⟩,h3,h4⟩:=h;refine⟨⟨h1,h2.imp_right ?_⟩,Nat.le_trans h3 k.1,h4⟩;rintro⟨g,cap,cur,rfl,a2,a3,a4⟩;exact⟨g,cap,cur,rfl,a2,k.2.2 _ _ _ _ a3 he,a4⟩
theorem RowsOwn.shape' (h:RowsOwn B e s v cs w):∃a c,v=.slice a cs.length c:=by
 rcases h.1.2 with⟨rfl,h2⟩|⟨g,cap,cur,fz,rfl,_⟩
 ·exact⟨none,0,by rw[h2]⟩
 ·exact⟨_,cap,rfl⟩
theorem RowsW.at_ (h:RowsW B e s v cs w) (hn:cs≠[]):∃g cap cur,v=.slice (some ⟨g,0,none⟩) cs.length cap/\B<=g/\w.heap[g]? =some (.cells cur e (0,0))/\cs.length<=cap/\cur.size=cap*s/\cur.toList.take (cs.length*s)=cs.flatMap Array.toList:=by
 obtain⟨⟨_,h2⟩,_,_⟩:=h;rcases h2 with⟨_,h2⟩|⟨g,cap,cur,rfl,a2,a3,a4,a5,a6,a7⟩
 ·exact absurd (List.eq_nil_of_length_eq_zero h2) hn
 ·exact⟨g,cap,cur,rfl,a2,a3,a4,a6,a7⟩
end
theorem rowsW_wp {o:Oper} {a:Act} {K:Act->World->Prop} {Q:Exit->Act->World->Prop} {w:World} (t e:TypeId) (p q:Operand)
  (ho:o.op=.call {callee:=.builtin .append,args:=#[p,q],argTypes:=#[t,t]})
  {B s by_:Nat} {z v:Value} {cs:List (Array Value)} {c:Array Value} (hs:a.eval p=v) (hb:RowsW B e s v cs w) (g cc:Nat) (hx:a.eval q=.slice (some ⟨g,0,none⟩) 1 cc) {fr:Nat×Nat}
  (hg:w.heap[g]? =some (.cells c e fr)) (hc:c.size=s) (h1:c.all (·.oneCell')=true) (hu:Tryz.prog.underlying t=some (.slice e)) (hi:(Tryz.prog.info? e).map (fun i=>(i.zero,i.size,i.bytes))=some (some z,s,by_))
  (hzs:z.cells.size=s) (hsz:0<s) (hlen:cs.length<=900000) (hby:by_<=1000000)
  (h:∀v' w',RowsW B e s v' (cs++[c]) w'->w.grownBy w' v.ownBlock->(v'.ownBlock=v.ownBlock\/∃g',v'.ownBlock=some g'/\w.heap.size<=g')->K (a.put o.dst v') w'):o.wp Tryz.prog a w K Q:=by
 obtain⟨i,hi0,hz,h2,h3⟩:=info_parts hi;have hcell:∀j u,c.toList[j]? =some u->w.cell? ((⟨g,0,none⟩:Addr).add j)=some u:=fun j u hj=>by
  have e:(⟨g,0,none⟩:Addr).add j=⟨g,j,none⟩:=by unfold Addr.add;split<;>simp_all
  rw[e];exact cell_in hg (by simpa using hj)
 have hbytes:(cs.length+1)*by_<=140737488355328:=by
  have:(cs.length+1)*by_<=1000000*1000000:=Nat.mul_le_mul (by omega) hby;omega
 have hone:∀u∈c.toList,u.oneCell'=true:=fun u hu=>(Array.all_eq_true_iff_forall_mem.1 h1) u (by simpa using hu)
 obtain⟨v',w',hr,g1,g2,_⟩:=run_append_own (P:=Tryz.prog) w B t o.type e i z s by_ hu hi0 hz h2 h3 hzs hsz v cs.length (cs.flatMap Array.toList) hb.1 ⟨g,0,none⟩ 1 cc c.toList (by simp[hc]) hcell hone (by unfold maxLen;omega) hbytes hb.2.1;have hnew:=append_news t o.type e i z s by_ hu hi0 hz h2 h3 hzs hsz v cs.length (cs.flatMap Array.toList) (World.ownsRowF_of hb.1) ⟨g,0,none⟩ 1 cc c.toList (by simp[hc]) hcell hone (by unfold maxLen;omega) hbytes v' w' hr;unfold Oper.wp execOp;simp only[ho,resolve,invoke,builtin,Sem.run_bind,Sem.run_pure,Result.andThen_ok,List.map_toArray,List.map_cons,List.map_nil,hs,hx,hr];refine h v' w' ⟨?_,Nat.le_trans hb.2.1 g2.size,fun x hx=> ?_⟩ g2 hnew
 ·rw[List.length_append,List.flatMap_append]
  simpa using g1
 ·rcases List.mem_append.1 hx with hx|hx
  ·exact hb.2.2 x hx
  ·simp at hx;subst hx;exact hc
theorem stW_last {o:Oper} {a:Act} {w:World} {K:Act->World->Prop} {Q:Exit->Act->World->Prop} (ty:TypeId) (x y:Operand) (ho:o.op=.store ty x y) {B s:Nat} {v:Value} {cs:List (Array Value)} {z c:Array Value}
  (hb:RowsW B ty s v (cs++[z]) w) (g cap n k:Nat) (hv:v=.slice (some ⟨g,0,none⟩) n cap) (hk:k=cs.length*s) (hx:a.eval x=.pointer (some ⟨g,k,none⟩)) (hy:a.eval y=.agg c) (hc:c.size=s) (h1:c.all (·.oneCell')=true)
  (hi:(Tryz.prog.info? ty).map (·.size)=some s)
  (h:∀w',RowsW B ty s v (cs++[c]) w'->Only g w w'->K (a.put o.dst undef) w'):o.wp Tryz.prog a w K Q:=by
 obtain⟨g',cap',cur,hv',hB,hg,hn,hcs,htk⟩:=hb.at_ (by simp);have hs5:=hb.2.2;rw[hv']at hv;simp only[Value.slice.injEq,Option.some.injEq,Addr.mk.injEq,and_true]at hv;obtain⟨rfl,hn',rfl⟩:=hv;subst hk;rw[List.length_append,List.length_singleton]at hn htk;have hms:(cs.length+1)*s<=cap'*s:=Nat.mul_le_mul_right _ hn;have hsu:(cs.length+1)*s=cs.length*s+s:=by rw[Nat.add_mul,Nat.one_mul]
 have hfl:(cs.flatMap Array.toList).length=cs.length*s:=flat_len' s cs fun x hx=>hs5 x (List.mem_append_left _ hx)
 have hcl:cur.toList.length=cap'*s:=by rw[Array.length_toList,hcs]
 have e1:cur.toList.take (cs.length*s)=cs.flatMap Array.toList:=by
  have h1:=congrArg (List.take (cs.length*s)) htk;rw[List.take_take,Nat.min_eq_left (by omega),List.flatMap_append,List.take_left' hfl]at h1;exact h1
 have hc5:c.toList.length=s:=by rw[Array.length_toList,hc]
 refine st_mid_wp ty x y ho g' (cs.length*s) c hx hy ty cur hg (by rw[hi,hc]) (by rw[hcs,hc];omega) h1 _ rfl fun w' h2 h3=>h w' ⟨⟨?_,.inr ⟨g',cap',_,?_,hB,h2,?_,hb.1.2.elim (fun h=>absurd h.2 (by simp)) (fun⟨_,_,_,e,_,_,_,h6,_⟩=>by rw[hv']at e;simp only[Value.slice.injEq]at e;rw[e.2.2];exact h6),?_,?_⟩⟩,Nat.le_trans hb.2.1 (by rw[h3.size];exact Nat.le_refl _),fun z' hz'=> ?_⟩ h3
 ·rw[flat_len' s (cs++[c]) fun x hx=> ?_]
  rcases List.mem_append.1 hx with hx|hx
  ·exact hs5 x (List.mem_append_left _ hx)
  ·simp at hx;subst hx;exact hc
 ·rw[hv'];simp
 ·simp;omega
 ·simp only[List.size_toArray,List.length_append,List.length_take,List.length_drop,hcl,Array.length_toList,hc]
  omega
 ·rw[e1,List.length_append,List.length_singleton,List.flatMap_append]
  simp only[List.flatMap_cons,List.flatMap_nil,List.append_nil];rw[List.take_append_of_le_length (by rw[List.length_append,hfl,hc5];omega),List.take_of_length_le (by rw[List.length_append,hfl,hc5];omega)]
 ·rcases List.mem_append.1 hz' with hx|hx
  ·exact hs5 z' (List.mem_append_left _ hx)
  ·simp at hx;subst hx;exact hc
def NotOwn (B X:Nat) (kv xv:Value) (V:World) (g:Nat):Prop:=B<=g/\g<V.heap.size/\g≠X/\kv.ownBlock≠some g/\xv.ownBlock≠some g
structure TreeIn (B X:Nat) (k n:Int) (t:ByteArray) (ks:List ByteArray) (bx kv xv:Value) (css:List (Array Value)) (ys:List Tr) (V:World):Prop where
 low:B<=X
 box:V.heap[X]? =some (.cells (trC k n t kv bx) 28 (0,0))
 keys:RowsOwn B 9 1 kv (ks.map fun y=> #[.string y]) V
 items:RowsW B 28 5 xv css V
 apart:xv.ownBlock≠some X
 parts:TrSL (NotOwn B X kv xv V) V ys (css.take ys.length)
section
variable {B X : Nat} {k n : Int} {t : ByteArray} {ks : List ByteArray} {bx kv xv kv' xv' : Value} {css : List (Array Value)} {ys : List Tr} {V V' V'' : World}
theorem RowsOwn.neX {e T:TypeId} {s:Nat} {v:Value} {cs:List (Array Value)} {fr:Nat×Nat} {c:Array Value} (h:RowsOwn B e s v cs V) (hb:V.heap[X]? =some (.cells c T fr)) (hT:e≠T):v.ownBlock≠some X:=by
 rcases h.own with h1|⟨g,cur,fz,h1,h2,h3⟩
 ·rw[h1];simp
 ·intro h'
  rw[h1]at h';obtain rfl:=Option.some.inj h';rw[hb]at h3;simp only[Option.some.injEq,Obj.cells.injEq]at h3;exact hT h3.2.1.symm
theorem RowsOwn.lt {e:TypeId} {s:Nat} {v:Value} {cs:List (Array Value)} {g:Nat} (h:RowsOwn B e s v cs V) (hg:v.ownBlock=some g):B<=g/\g<V.heap.size:=by
 rcases h.own with h1|⟨g',cur,fz,h1,h2,h3⟩
 ·rw[h1]at hg;cases hg
 ·rw[h1]at hg
  obtain rfl:=Option.some.inj hg;exact⟨h2,(gZ h3)⟩
theorem RowsOwn.apart2 {e T:TypeId} {s s':Nat} {v u:Value} {cs ds:List (Array Value)} {g:Nat} (h:RowsOwn B e s v cs V) (h':RowsOwn B T s' u ds V) (hT:e≠T) (hg:v.ownBlock=some g):u.ownBlock≠some g:=by
 rcases h.own with h1|⟨g',cur,fz,h1,h2,h3⟩
 ·rw[h1]at hg;cases hg
 ·rw[h1]at hg
  obtain rfl:=Option.some.inj hg;exact h'.neX h3 (fun e=>hT e.symm)
theorem TreeIn.moved (h:TreeIn B X k n t ks bx kv xv css ys V) (hs:V.heap.size<=V'.heap.size) (hk:∀(g:Nat) (cs:Array Value) (T:TypeId) (fr:Nat×Nat),(T=9\/T=28)->V.heap[g]? =some (.cells cs T fr)->B<=g->V'.heap[g]? =some (.cells cs T fr)):TreeIn B X k n t ks bx kv xv css ys V' where
 low:=h.low
 box:=hk _ _ _ _ (.inr rfl) h.box h.low
 keys:=by
  obtain⟨⟨h1,h2⟩,h3,h4⟩:=h.keys;refine⟨⟨h1,h2.imp_right ?_⟩,Nat.le_trans h3 hs,h4⟩;rintro⟨g,cap,cur,fz,a1,a2,a3,a4⟩;exact⟨g,cap,cur,fz,a1,a2,hk _ _ _ _ (.inl rfl) a3 a2,a4⟩
 items:=by
  obtain⟨⟨h1,h2⟩,h3,h4⟩:=h.items;refine⟨⟨h1,h2.imp_right ?_⟩,Nat.le_trans h3 hs,h4⟩;rintro⟨g,cap,cur,a1,a2,a3,a4⟩;exact⟨g,cap,cur,a1,a2,hk _ _ _ _ (.inr rfl) a3 a2,a4⟩
 apart:=h.apart
 parts:=h.parts.imp (fun g cur T fr hg hT e=>hk g cur T fr hT e hg.1) fun g hg _=>⟨hg.1,Nat.lt_of_lt_of_le hg.2.1 hs,hg.2.2⟩
theorem TreeIn.later (h:TreeIn B X k n t ks bx kv xv css ys V) (hb:Below V.heap.size V V'):TreeIn B X k n t ks bx kv xv css ys V':=h.moved hb.size fun g _ _ _ _ e _=>(hb.block g (gZ e)).trans e
theorem TreeIn.ikw {Ts:TypeId->Prop} {Y:Nat} (h:TreeIn B X k n t ks bx kv xv css ys V) (hi:IKW Ts Y V V') (h1:Ts 9) (h2:Ts 28):TreeIn B X k n t ks bx kv xv css ys V':=h.moved hi.1 fun g cs T fr hT e _=>hi.2.2 g cs T fr e (by rcases hT with rfl|rfl<;>assumption)
theorem TreeIn.key (h:TreeIn B X k n t ks bx kv xv css ys V) (y:ByteArray) (hr:RowsOwn B 9 1 kv' ((ks.map fun y=> #[.string y])++[#[.string y]]) V') (hg:V.grownBy V' kv.ownBlock) (hn:kv'.ownBlock=kv.ownBlock\/∃g',kv'.ownBlock=some g'/\V.heap.size<=g')
  (ho:V'.grownBy V'' (some X)) (hx:V''.heap[X]? =some (.cells (trC k n t kv' bx) 28 (0,0))):TreeIn B X k n t (ks++[y]) bx kv' xv css ys V'':=by
 have hXl:=(gZ h.box)
 have hkX:=h.keys.neX h.box (by decide);have hbox':V'.heap[X]? =some (.cells (trC k n t kv bx) 28 (0,0)):=(hg.block X hXl (fun e=>hkX e.symm)).trans h.box;have hki:∀g,kv.ownBlock=some g->xv.ownBlock≠some g:=fun g hg=>h.keys.apart2 h.items.own (by decide) hg
 have hkX':kv'.ownBlock≠some X:=by
  rcases hn with e|⟨g',e,hge⟩
  ·rw[e];exact hkX
  ·rw[e];intro e';have:=Option.some.inj e';omega
 have hitm:RowsW B 28 5 xv css V':=h.items.grown hg (by
  cases hx:xv.ownBlock with
  |none=>exact .inl rfl
  |some g=>exact .inr fun e=>hki g e.symm hx)
 have hno:∀g,NotOwn B X kv xv V g->NotOwn B X kv' xv V'' g:=fun g ⟨a1,a2,a3,a4,a5⟩=>⟨a1,by have:=hg.size;have:=ho.size;omega,a3,by
  rcases hn with e|⟨g',e,hge⟩
  ·rw[e];exact a4
  ·rw[e];intro e';have:=Option.some.inj e';omega,a5⟩
 refine⟨h.low,hx,?_,hitm.grown ho (.inr h.apart),h.apart,h.parts.imp ((KT.grown hg fun Y e hY=>hY.2.2.2.1 e).trans (KT.grown ho fun Y e hY=> ?_)) fun g hg _=>hno g hg⟩
 ·rw[List.map_append]
  exact hr.grown ho (.inr hkX')
 ·cases e;exact hY.2.2.1 rfl
theorem TreeIn.grew (h:TreeIn B X k n t ks bx kv xv css ys V) (hl:css.length=ys.length) {z:Array Value} (hr:RowsW B 28 5 xv' (css++[z]) V') (hg:V.grownBy V' xv.ownBlock) (hn:xv'.ownBlock=xv.ownBlock\/∃g',xv'.ownBlock=some g'/\V.heap.size<=g'):
  TreeIn B X k n t ks bx kv xv' (css++[z]) ys V'/\∀{a:Tr} {v:Value},TrS (NotOwn B X kv xv V) V a v->TrS (NotOwn B X kv xv' V') V' a v:=by
 have hXl:=(gZ h.box)
 have hki:∀g,kv.ownBlock=some g->xv.ownBlock≠some g:=fun g hg=>h.keys.apart2 h.items.own (by decide) hg
 have hno:∀g,NotOwn B X kv xv V g->NotOwn B X kv xv' V' g:=fun g ⟨a1,a2,a3,a4,a5⟩=>⟨a1,by have:=hg.size;omega,a3,a4,by
  rcases hn with e|⟨g',e,hge⟩
  ·rw[e];exact a5
  ·rw[e];intro e';have:=Option.some.inj e';omega⟩
 have hkt:KT (NotOwn B X kv xv V) V V':=KT.grown hg fun Y e hY=>hY.2.2.2.2 e
 refine⟨⟨h.low,(hg.block X hXl (fun e=>h.apart e.symm)).trans h.box,?_,hr,?_,?_⟩,fun ht=>ht.imp hkt fun g hg _=>hno g hg⟩
 ·refine h.keys.grown hg ?_
  cases hx:kv.ownBlock with
  |none=>exact .inl rfl
  |some g=>exact .inr fun e=>hki g hx e.symm
 ·rcases hn with e|⟨g',e,hge⟩
  ·rw[e];exact h.apart
  ·rw[e];intro e';have:=Option.some.inj e';omega
 ·have:=h.parts
  rw[<-hl,List.take_of_length_le (Nat.le_refl _)]at this;rw[<-hl,List.take_left];exact this.imp hkt fun g hg _=>hno g hg
theorem TreeIn.stored {z:Array Value} (h:TreeIn B X k n t ks bx kv xv (css++[z]) ys V) (hl:css.length=ys.length) {c:Array Value} {g:Nat} (hg:xv.ownBlock=some g) (hr:RowsW B 28 5 xv (css++[c]) V') (ho:Only g V V'):
  TreeIn B X k n t ks bx kv xv (css++[c]) ys V'/\∀{a:Tr} {v:Value},TrS (NotOwn B X kv xv V) V a v->TrS (NotOwn B X kv xv V') V' a v:=by
 have hXl:=(gZ h.box)
 have hki:kv.ownBlock≠some g:=fun e=>h.keys.apart2 h.items.own (by decide) e hg
 have hgX:X≠g:=fun e=>h.apart (by rw[hg,e])
 have hno:∀g,NotOwn B X kv xv V g->NotOwn B X kv xv V' g:=fun g ⟨a1,a2,a3,a4,a5⟩=>⟨a1,by rw[ho.size];exact a2,a3,a4,a5⟩
 have hkt:KT (NotOwn B X kv xv V) V V':=KT.grown ho.by_ fun Y e hY=>by cases e;exact hY.2.2.2.2 hg
 refine⟨⟨h.low,ho.other h.box hgX,h.keys.grown ho.by_ (.inr hki),hr,h.apart,?_⟩,fun ht=>ht.imp hkt fun g hg _=>hno g hg⟩;have:=h.parts;rw[<-hl,List.take_left]at this ⊢;exact this.imp hkt fun g hg _=>hno g hg
theorem TreeIn.boxed (h:TreeIn B X k n t ks bx kv xv css ys V) (ho:Only X V V') {bx':Value} (hx:V'.heap[X]? =some (.cells (trC k n t kv bx') 28 (0,0))):
  TreeIn B X k n t ks bx' kv xv css ys V'/\∀{a:Tr} {v:Value},TrS (NotOwn B X kv xv V) V a v->TrS (NotOwn B X kv xv V') V' a v:=by
 have hkX:=h.keys.neX h.box (by decide);have hno:∀g,NotOwn B X kv xv V g->NotOwn B X kv xv V' g:=fun g ⟨a1,a2,a3,a4,a5⟩=>⟨a1,by rw[ho.size];exact a2,a3,a4,a5⟩
 have hkt:KT (NotOwn B X kv xv V) V V':=KT.grown ho.by_ fun Y e hY=>by cases e;exact hY.2.2.1 rfl
 exact⟨⟨h.low,hx,h.keys.grown ho.by_ (.inr hkX),h.items.grown ho.by_ (.inr h.apart),h.apart,h.parts.imp hkt fun g hg _=>hno g hg⟩,fun ht=>ht.imp hkt fun g hg _=>hno g hg⟩
theorem TreeIn.part {y:Tr} {c:Array Value} (h:TreeIn B X k n t ks bx kv xv (css++[c]) ys V) (hl:css.length=ys.length) (hc:c.size=5) (hy:TrS (NotOwn B X kv xv V) V y (.agg c)):TreeIn B X k n t ks bx kv xv (css++[c]) (ys++[y]) V where
 low:=h.low
 box:=h.box
 keys:=h.keys
 items:=h.items
 apart:=h.apart
 parts:=by
  have:=h.parts;rw[<-hl,List.take_left]at this;rw[List.take_of_length_le (by simp;omega)];exact trSL_app this (trSL_one hc hy)
theorem TreeIn.news {a:Tr} {v:Value} (h:TreeIn B X k n t ks bx kv xv css ys V) (ht:TrS (fun g=>V.heap.size<=g) V' a v):TrS (NotOwn B X kv xv V') V' a v:=by
 have hXl:=(gZ h.box)
 have:=h.low;refine ht.imp KT.refl fun g hg hl=>⟨by omega,hl,by omega,fun e=> ?_,fun e=> ?_⟩
 ·have:=(h.keys.lt e).2;omega
 ·have:=(h.items.own.lt e).2;omega
theorem TreeIn.news2 {a:Tr} {v:Value} {n₀:Nat} (h:TreeIn B X k n t ks bx kv xv css ys V) (ht:TrS (fun g=>n₀<=g) V a v) (hX:X<n₀) (h1:∀g,kv.ownBlock=some g->g<n₀) (h2:∀g,xv.ownBlock=some g->g<n₀):TrS (NotOwn B X kv xv V) V a v:=by
 have:=h.low;refine ht.imp KT.refl fun g hg hl=>⟨by omega,hl,by omega,fun e=> ?_,fun e=> ?_⟩
 ·have:=h1 g e;omega
 ·have:=h2 g e;omega
theorem flat_strs:∀ks:List ByteArray,(ks.map fun y=>(#[.string y]:Array Value)).flatMap Array.toList=ks.map Value.string
 |[]=>rfl
 |a::l=>by rw[List.map_cons,List.flatMap_cons,flat_strs l];rfl
theorem TreeIn.tree (h:TreeIn B X k n t ks xv kv xv css ys V) (hl:css.length=ys.length) (ht:t.size<=maxLen) (hk:InR k) (hn:InR n):TrS (fun g=>B<=g) V (.nd k n t ks ys) (.agg (trC k n t kv xv)):=by
 have h1:=h.keys.lsT;have h2:=h.items.own.lsT;have h3:=h.parts;rw[List.take_of_length_le (by omega)]at h3;rw[TrS];refine⟨kv,xv,css,rfl,ht,hk,hn,?_,?_,h3.weak fun g hg=>hg.1⟩
 ·rw[flat_strs,List.length_map]at h1
  exact h1.imp (.inl rfl) KT.refl fun g hg _=>(h.keys.lt hg).1
 ·rw[hl]at h2
  exact h2.imp (.inr rfl) KT.refl fun g hg _=>(h.items.own.lt hg).1
end
end Go.Proofs.YtengibnpebfblaaGreatDoor
