import Derived.Test.YtengibnpebfblaaGreatDoorB9
set_option maxRecDepth 1000000
set_option maxHeartbeats 8000000
set_option linter.unusedSimpArgs false
namespace Go.Proofs.YtengibnpebfblaaGreatDoor
open Go.RowKit
structure Kid where
 a:Value
 b:Value
 l:List Cel
 k:Nat
 ha:a.oneCell'=true
 hb:b.oneCell'=true
def kidc (h:Nat) (p:Kid):List Value:=[.int .i64 (p.l.length:Int),.int .i64 ((h+1:Nat):Int),p.a,p.b]
theorem kidc_len (h:Nat) (p:Kid):(kidc h p).length=4:=rfl
theorem kidc_one (h:Nat) (p:Kid):∀u∈kidc h p,u.oneCell'=true:=by
 intro u hu;simp only[kidc,List.mem_cons,List.not_mem_nil,or_false]at hu;rcases hu with rfl|rfl|rfl|rfl
 ·rfl
 ·rfl
 ·exact p.ha
 ·exact p.hb
def catK (ks:List Kid):List Cel:=ks.flatMap (·.l)
theorem catK_app (xs ys:List Kid):catK (xs++ys)=catK xs++catK ys:=by simp[catK]
theorem catK_cons (x:Kid) (ys:List Kid):catK (x::ys)=x.l++catK ys:=by simp[catK]
theorem catK_one (x:Kid):catK [x]=x.l:=by simp[catK]
def NodeR (S:Nat->Prop) (W:World):Nat->Kid->Prop
 |0,p=>p.a=.slice none 0 0/\p.k=p.l.length/\1<=p.k/\p.k<=16/\HeadAt S W 35 4 p.b (ivV p.l) p.k
 |h+1,p=>p.b=.slice none 0 0/\1<=p.k/\p.k<=16/\∃ks:List Kid,HeadAt S W 86 4 p.a (en (kidc h) ks) p.k/\ks.length=p.k/\p.l=catK ks/\∀q∈ks,8<=q.k/\NodeR S W h q
section
variable {S S' : Nat → Prop} {W W' : World} {n₀ : Nat}
theorem NodeR.weak (hs:∀g,S g->S' g):∀{h:Nat} {p:Kid},NodeR S W h p->NodeR S' W h p
 |0,_,⟨h1,h2,h3,h4,h5⟩=>⟨h1,h2,h3,h4,h5.weak hs⟩
 |_+1,_,⟨h1,h2,h3,ks,h4,h5,h6,h7⟩=>⟨h1,h2,h3,ks,h4.weak hs,h5,h6,fun q hq=>⟨(h7 q hq).1,(h7 q hq).2.weak hs⟩⟩
theorem NodeR.old:∀{h:Nat} {p:Kid},NodeR S W h p->NodeR (fun g=>S g/\g<W.heap.size) W h p
 |0,_,⟨h1,h2,h3,h4,h5⟩=>⟨h1,h2,h3,h4,h5.old⟩
 |_+1,_,⟨h1,h2,h3,ks,h4,h5,h6,h7⟩=>⟨h1,h2,h3,ks,h4.old,h5,h6,fun q hq=>⟨(h7 q hq).1,(h7 q hq).2.old⟩⟩
theorem NodeR.kept {row:Option Nat} (hg:W.grownBy W' row) (hr:∀X,row=some X->¬S X):∀{h:Nat} {p:Kid},NodeR S W h p->NodeR S W' h p
 |0,_,⟨h1,h2,h3,h4,h5⟩=>⟨h1,h2,h3,h4,h5.kept hg hr⟩
 |_+1,_,⟨h1,h2,h3,ks,h4,h5,h6,h7⟩=>⟨h1,h2,h3,ks,h4.kept hg hr,h5,h6,fun q hq=>⟨(h7 q hq).1,(h7 q hq).2.kept hg hr⟩⟩
theorem NodeR.keptT {row:Option Nat} (hg:W.grownBy W' row) (hT:∀X,row=some X->∃o:Obj,W.heap[X]? =some o/\∀cs fr,o≠.cells cs 35 fr/\o≠.cells cs 86 fr):∀{h:Nat} {p:Kid},NodeR S W h p->NodeR S W' h p
 |0,_,⟨h1,h2,h3,h4,h5⟩=>⟨h1,h2,h3,h4,h5.keptT hg fun X e=>by obtain⟨o,h1,h2⟩:=hT X e;exact⟨o,h1,fun cs fr=>(h2 cs fr).1⟩⟩
 |_+1,_,⟨h1,h2,h3,ks,h4,h5,h6,h7⟩=>⟨h1,h2,h3,ks,h4.keptT hg fun X e=>by obtain⟨o,h1,h2⟩:=hT X e;exact⟨o,h1,fun cs fr=>(h2 cs fr).2⟩,h5,h6,fun q hq=>⟨(h7 q hq).1,(h7 q hq).2.keptT hg hT⟩⟩
theorem NodeR.later {h:Nat} {p:Kid} (hn:NodeR S W h p) (hb:Below W.heap.size W W'):NodeR S W' h p:=
 hn.kept (row:=none) ⟨hb.os,hb.tape,hb.output,hb.size,fun k hk _=>hb.block k hk⟩ (fun _ e=>by cases e)
theorem NodeR.low (hb:Below n₀ W W'):∀{h:Nat} {p:Kid},NodeR (fun g=>g<n₀) W h p->NodeR (fun g=>g<n₀) W' h p
 |0,_,⟨h1,h2,h3,h4,h5⟩=>⟨h1,h2,h3,h4,h5.low hb⟩
 |_+1,_,⟨h1,h2,h3,ks,h4,h5,h6,h7⟩=>⟨h1,h2,h3,ks,h4.low hb,h5,h6,fun q hq=>⟨(h7 q hq).1,(h7 q hq).2.low hb⟩⟩
theorem NodeR.wid {h:Nat} {p:Kid} (hn:NodeR S W h p):1<=p.k/\p.k<=16:=by
 cases h with
 |zero=>exact⟨hn.2.2.1,hn.2.2.2.1⟩
 |succ h=>exact⟨hn.2.1,hn.2.2.1⟩
theorem NodeR.shape {h:Nat} {p:Kid} (hn:NodeR S W h p):(∃q k c,p.a=.slice q k c)/\∃q k c,p.b=.slice q k c:=by
 cases h with
 |zero=>obtain⟨q,c,e,_⟩:=hn.2.2.2.2.shape;exact⟨⟨_,_,_,hn.1⟩,_,_,_,e⟩
 |succ h=>obtain⟨h1,_,_,ks,h4,_⟩:=hn;obtain⟨q,c,e,_⟩:=h4.shape;exact⟨⟨_,_,_,e⟩,_,_,_,h1⟩
end
theorem cat_lower {c:Nat}:∀ks:List Kid,(∀q∈ks,c<=q.l.length)->ks.length*c<=(catK ks).length
 |[],_=>by simp[catK]
 |q::ks,h=>by
  have h1:=cat_lower ks (fun x hx=>h x (List.mem_cons_of_mem _ hx));have h2:=h q (List.mem_cons_self ..);rw[catK_cons,List.length_append,List.length_cons,Nat.add_mul];omega
theorem cat_upper {c:Nat}:∀ks:List Kid,(∀q∈ks,q.l.length<=c)->(catK ks).length<=ks.length*c
 |[],_=>by simp[catK]
 |q::ks,h=>by
  have h1:=cat_upper ks (fun x hx=>h x (List.mem_cons_of_mem _ hx));have h2:=h q (List.mem_cons_self ..);rw[catK_cons,List.length_append,List.length_cons,Nat.add_mul];omega
theorem NodeR.least {S:Nat->Prop} {W:World}:∀{h:Nat} {p:Kid},NodeR S W h p->p.k*8^h<=p.l.length
 |0,p,hn=>by rw[hn.2.1];simp
 |h+1,p,⟨_,_,_,ks,_,h5,h6,h7⟩=>by
  rw[h6,<-h5];refine Nat.le_trans ?_ (cat_lower (c:=8^(h+1)) ks fun q hq=> ?_)
  ·exact Nat.le_refl _
  ·have h1:=NodeR.least (h7 q hq).2
   have h2:8*8^h<=q.k*8^h:=Nat.mul_le_mul_right _ (h7 q hq).1;rw[Nat.pow_succ];omega
theorem NodeR.most {S:Nat->Prop} {W:World}:∀{h:Nat} {p:Kid},NodeR S W h p->p.l.length<=p.k*16^h
 |0,p,hn=>by rw[hn.2.1];simp
 |h+1,p,⟨_,_,_,ks,_,h5,h6,h7⟩=>by
  rw[h6,<-h5];refine Nat.le_trans (cat_upper (c:=16^(h+1)) ks fun q hq=> ?_) (Nat.le_refl _);have h1:=NodeR.most (h7 q hq).2;have h2:q.k*16^h<=16*16^h:=Nat.mul_le_mul_right _ (h7 q hq).2.wid.2;rw[Nat.pow_succ];omega
theorem NodeR.high {S:Nat->Prop} {W:World} {h:Nat} {p:Kid} (hn:NodeR S W h p):h<p.l.length:=by
 have h1:=hn.least;have h2:h<8^h:=Nat.lt_pow_self (by decide);have h3:1*8^h<=p.k*8^h:=Nat.mul_le_mul_right _ hn.wid.1;omega
theorem NodeR.len0 {S:Nat->Prop} {W:World} {h:Nat} {p:Kid} (hn:NodeR S W h p):0<p.l.length:=by have:=hn.high;omega
def NodesR (S:Nat->Prop) (W:World) (h:Nat) (v:Value) (ks:List Kid):Prop:=CutAt S W 4 v (en (kidc h) ks) ks.length/\∀p∈ks,NodeR S W h p
section
variable {S S' : Nat → Prop} {W W' : World} {h : Nat} {v : Value} {ks : List Kid}
theorem NodesR.weak (hn:NodesR S W h v ks) (hs:∀g,S g->S' g):NodesR S' W h v ks:=⟨hn.1.weak hs,fun p hp=>(hn.2 p hp).weak hs⟩
theorem NodesR.old (hn:NodesR S W h v ks):NodesR (fun g=>S g/\g<W.heap.size) W h v ks:=⟨hn.1.old,fun p hp=>(hn.2 p hp).old⟩
theorem NodesR.kept {row:Option Nat} (hn:NodesR S W h v ks) (hg:W.grownBy W' row) (hr:∀X,row=some X->¬S X):NodesR S W' h v ks:=⟨hn.1.kept hg hr,fun p hp=>(hn.2 p hp).kept hg hr⟩
theorem NodesR.later (hn:NodesR S W h v ks) (hb:Below W.heap.size W W'):NodesR S W' h v ks:=⟨hn.1.later hb,fun p hp=>(hn.2 p hp).later hb⟩
end
def Fit (N:Nat) (ks:List Kid):Prop:=ks.length=cntN N/\∀p∈ks,(2<=ks.length->8<=p.k)/\(ks.length=1->p.k=N)
def zeroR:Array Value:=#[.int .i64 0,.int .i64 0,.slice none 0 0,.slice none 0 0]
def RootR (S:Nat->Prop) (W:World) (c:Array Value) (l:List Cel):Prop:=
 (l=[]/\c=zeroR)\/∃h p,c=(kidc h p).toArray/\p.l=l/\NodeR S W h p/\(h=0\/2<=p.k)
section
variable {S S' : Nat → Prop} {W W' : World} {c : Array Value} {l : List Cel} {n₀ : Nat}
theorem RootR.weak (hn:RootR S W c l) (hs:∀g,S g->S' g):RootR S' W c l:=by
 rcases hn with hn|⟨h,p,h1,h2,h3,h4⟩
 ·exact .inl hn
 ·exact .inr ⟨h,p,h1,h2,h3.weak hs,h4⟩
theorem RootR.old (hn:RootR S W c l):RootR (fun g=>S g/\g<W.heap.size) W c l:=by
 rcases hn with hn|⟨h,p,h1,h2,h3,h4⟩
 ·exact .inl hn
 ·exact .inr ⟨h,p,h1,h2,h3.old,h4⟩
theorem RootR.kept {row:Option Nat} (hn:RootR S W c l) (hg:W.grownBy W' row) (hr:∀X,row=some X->¬S X):RootR S W' c l:=by
 rcases hn with hn|⟨h,p,h1,h2,h3,h4⟩
 ·exact .inl hn
 ·exact .inr ⟨h,p,h1,h2,h3.kept hg hr,h4⟩
theorem RootR.keptT {row:Option Nat} (hn:RootR S W c l) (hg:W.grownBy W' row) (hT:∀X,row=some X->∃o:Obj,W.heap[X]? =some o/\∀cs fr,o≠.cells cs 35 fr/\o≠.cells cs 86 fr):RootR S W' c l:=by
 rcases hn with hn|⟨h,p,h1,h2,h3,h4⟩
 ·exact .inl hn
 ·exact .inr ⟨h,p,h1,h2,h3.keptT hg hT,h4⟩
theorem RootR.later (hn:RootR S W c l) (hb:Below W.heap.size W W'):RootR S W' c l:=by
 rcases hn with hn|⟨h,p,h1,h2,h3,h4⟩
 ·exact .inl hn
 ·exact .inr ⟨h,p,h1,h2,h3.later hb,h4⟩
theorem RootR.low (hn:RootR (fun g=>g<n₀) W c l) (hb:Below n₀ W W'):RootR (fun g=>g<n₀) W' c l:=by
 rcases hn with hn|⟨h,p,h1,h2,h3,h4⟩
 ·exact .inl hn
 ·exact .inr ⟨h,p,h1,h2,h3.low hb,h4⟩
theorem RootR.but {X:Nat} {cs:Array Value} {T:TypeId} {fr:Nat×Nat} (hn:RootR S W c l) (k:Only X W W') (hX:W.heap[X]? =some (.cells cs T fr)) (h1:T≠35) (h2:T≠86):RootR S W' c l:=
 hn.keptT k.by_ fun Y e=>by
  cases e
  exact⟨_,hX,fun cs fr=>⟨fun e=>(by simp only[Obj.cells.injEq]at e;exact h1 e.2.1),fun e=>(by simp only[Obj.cells.injEq]at e;exact h2 e.2.1)⟩⟩
theorem RootR.size (hn:RootR S W c l):c.size=4:=by
 rcases hn with⟨_,rfl⟩|⟨h,p,rfl,_⟩<;>rfl
theorem RootR.one (hn:RootR S W c l):c.all (·.oneCell')=true:=by
 rcases hn with⟨_,rfl⟩|⟨h,p,rfl,_⟩
 ·simp[zeroR,Value.oneCell']
 ·rw[Array.all_eq_true_iff_forall_mem]
  intro u hu;exact kidc_one h p u (by simpa using hu)
theorem RootR.n (hn:RootR S W c l):c[0]? =some (.int .i64 (l.length:Int)):=by
 rcases hn with⟨rfl,rfl⟩|⟨h,p,rfl,rfl,_⟩<;>rfl
theorem RootR.cells (hn:RootR S W c l):∃(d:Nat) (q1:Option Addr) (n1 c1:Nat) (q2:Option Addr) (n2 c2:Nat),c=#[.int .i64 (l.length:Int),.int .i64 (d:Int),.slice q1 n1 c1,.slice q2 n2 c2]/\d<=l.length/\(d=0↔l.length=0)/\(2<=d->2*8^(d-1)<=l.length)/\l.length<=16^d:=by
 rcases hn with⟨rfl,rfl⟩|⟨h,p,rfl,rfl,h3,h4⟩
 ·exact⟨0,_,_,_,_,_,_,rfl,Nat.le_refl _,Iff.rfl,fun h=>absurd h (by omega),by simp⟩
 ·obtain⟨⟨q1,n1,c1,e1⟩,q2,n2,c2,e2⟩:=h3.shape
  have h5:=h3.high;have h6:=h3.most;have h7:=h3.wid;refine⟨h+1,q1,n1,c1,q2,n2,c2,by rw[kidc,e1,e2],by omega,by constructor<;>(intro;omega),fun h8=> ?_,?_⟩
  ·have h9:=h3.least
   have:2*8^h<=p.k*8^h:=Nat.mul_le_mul_right _ (by rcases h4 with h4|h4<;>omega);rw[Nat.add_sub_cancel];omega
  ·have:p.k*16^h<=16*16^h:=Nat.mul_le_mul_right _ h7.2
   rw[Nat.pow_succ];omega
end
end Go.Proofs.YtengibnpebfblaaGreatDoor
namespace Go.Proofs.YtengibnpebfblaaGreatDoor
open Go.RowKit
theorem rows_cut {B:Nat} {e:TypeId} {s:Nat} {v:Value} {cs:List (Array Value)} {w:World} (h:RowsOwn B e s v cs w):CutAt (fun g=>B<=g) w s v (cs.flatMap Array.toList) cs.length:=by
 obtain⟨h1,h2,h3⟩:=h;have h1':=h1;obtain⟨hl,h4⟩:=h1;rcases h4 with⟨rfl,e0⟩|⟨g,cap,cur,fz,rfl,a2,a3,a4,a5,a6,a7⟩
 ·rw[e0]
  exact⟨none,0,rfl,Nat.le_refl _,by rw[hl,e0],.inl ⟨rfl,rfl⟩⟩
 ·refine⟨_,cap,rfl,by omega,hl,.inr ⟨g,0,rfl,a2,(gZ a3),fun j u hu=> ?_⟩⟩
  have:=h1'.cells (g:=g) rfl j u hu;rwa[add_at]at this
theorem kid_cells (h:Nat) (ks:List Kid):(ks.map fun p=>(kidc h p).toArray).flatMap Array.toList=en (kidc h) ks:=by
 unfold en;induction ks with
 |nil=>rfl
 |cons p ks ih=>rw[List.map_cons,List.flatMap_cons,List.flatMap_cons,ih]
theorem fit_of {α:Type} {xs:List α} {kq:List (Kid×List α)} (h:kq.map (·.2)=chunks (cntN xs.length) xs) (hk:∀x∈kq,x.1.k=x.2.length):Fit xs.length (kq.map (·.1)):=by
 have hl:kq.length=cntN xs.length:=by
  have:=congrArg List.length h;rwa[List.length_map,chunks_len]at this
 refine⟨by rw[List.length_map,hl],fun p hp=> ?_⟩;obtain⟨x,hx,rfl⟩:=List.mem_map.1 hp;have hm:x.2∈chunks (cntN xs.length) xs:=by rw[<-h];exact List.mem_map.2 ⟨x,hx,rfl⟩
 rw[List.length_map,hl,hk x hx];refine⟨(chunks_wide xs _ hm).2.2,fun h1=> ?_⟩;rw[chunks_one xs h1,List.mem_singleton]at hm;rw[hm]
theorem cat_leaf:∀kq:List (Kid×List Cel),(∀x∈kq,x.1.l=x.2)->catK (kq.map (·.1))=(kq.map (·.2)).flatten
 |[],_=>rfl
 |x::kq,h=>by
  rw[List.map_cons,List.map_cons,catK_cons,List.flatten_cons,h x (List.mem_cons_self ..),cat_leaf kq fun y hy=>h y (List.mem_cons_of_mem _ hy)]
theorem cat_inner:∀kq:List (Kid×List Kid),(∀x∈kq,x.1.l=catK x.2)->catK (kq.map (·.1))=catK ((kq.map (·.2)).flatten)
 |[],_=>rfl
 |x::kq,h=>by
  rw[List.map_cons,List.map_cons,catK_cons,List.flatten_cons,catK_app,h x (List.mem_cons_self ..),cat_inner kq fun y hy=>h y (List.mem_cons_of_mem _ hy)]
theorem chunks_all {α:Type} (xs:List α):(chunks (cntN xs.length) xs).flatten=xs:=
 chunks_flat _ _ fun h=>List.eq_nil_of_length_eq_zero (by unfold cntN at h;omega)
theorem part_pos {α:Type} {xs:List α} {pl:List (Value×List α)} (h:pl.map (·.2)=chunks (cntN xs.length) xs) {k:Nat} (hk:k<pl.length):1<=pl[k].2.length/\pl[k].2.length<=16:=by
 have hm:pl[k].2∈chunks (cntN xs.length) xs:=by rw[<-h];exact List.mem_map.2 ⟨pl[k],List.getElem_mem hk,rfl⟩
 exact⟨(chunks_wide xs _ hm).1,(chunks_wide xs _ hm).2.1⟩
theorem parts_len {α:Type} {xs:List α} {pl:List (Value×List α)} (h:pl.map (·.2)=chunks (cntN xs.length) xs):pl.length=cntN xs.length:=by
 have:=congrArg List.length h;rwa[List.length_map,chunks_len]at this
theorem rp_leaves (w:World) {S:Nat->Prop} (B:Nat) (ls:List (Value×List Cel)) (hcells:∀k (hk:k<ls.length),w.cell? ⟨B,k,none⟩=some ls[k].1) (hcut:∀p∈ls,CutAt S w 4 p.1 (ivV p.2) p.2.length)
  (xs:List Cel) (hxs:catE ls ls.length=xs) (hN:xs.length<=100000) (hl:ls.length<=1000):
  Calls Tryz.prog 110 #[.slice (some ⟨B,0,none⟩) ls.length ls.length] w fun e w'=>∃v,e=.returned v/\∃ks,NodesR (fun g=>w.heap.size<=g) w' 0 v ks/\catK ks=xs/\Fit xs.length ks/\Below w.heap.size w w':=by
 have HSP:=iH (sp_val enV_len enV_one w B ls hcells (fun p hp=>by exact hcut p hp) xs hxs hN hl);have HN:=iH hN;clear hcells hcut hxs hN;go_enter Tryz.func110,Tryz.ntmps110;go_wp2_with (go_at_call 127;refine HSP.out.mono ?_;rintro e w1 ⟨v1,rfl,pl,⟨a1,g1,cap1,rfl,ha1,hc1,hh1⟩,hpl,hb1⟩;have HA1:=iH ha1;have HC1:=iH hc1;have HH1:=iH hh1;have HPL:=iH hpl;have HB1:=iH hb1;clear ha1 hc1 hh1 hpl hb1)
 clear HSP;have hpl5:(pl.length:Int)<=100000:=by have:=parts_len HPL.out;have:=HN.out;unfold cntN at*;omega
 go_loopw [3,9] (fun nv iv wr=>∃(k:Nat) (kq:List (Kid×List Cel)),iv=.int .i64 (k:Int)/\k<=pl.length/\Hid (RowsOwn w1.heap.size 86 4 nv ((kq.map (·.1)).map fun p=>(kidc 0 p).toArray) wr)/\
  Hid ((∀x∈kq,NodeR (fun g=>w.heap.size<=g/\g<w1.heap.size) wr 0 x.1/\x.1.l=x.2)/\kq.map (·.2)=(pl.take k).map (·.2))/\Hid (Below w1.heap.size w1 wr)) (fun _ iv _=>pl.length-(intOf iv).toNat)
 case atStart=>exact⟨0,[],rfl,Nat.zero_le _,⟨World.ownsRowF_nil _ _ _ _,Nat.le_refl _,fun c h=>(by cases h)⟩,⟨fun x h=>(by cases h),rfl⟩,Below.refl _ _⟩
 case round=>
  obtain⟨k,kq,rfl,hk,HP,HK,HB⟩:=hrel;by_cases hlt:k<pl.length
  ·have hpp:=part_pos HPL.out hlt
   obtain rfl:a1=some ⟨g1,0,none⟩:=HA1.out (by omega);have hc:=(HB.out.cell (p:=⟨g1,k,none⟩) (World.block_lt_of_cell? _ _ (HC1.out k hlt))).trans (HC1.out k hlt);have HH:=iH (HH1.out _ (List.getElem_mem hlt));obtain⟨q,hq⟩:∃q,q=pl[k]:=⟨_,rfl⟩
   rw[<-hq]at hc hpp HH;obtain⟨qv,ql⟩:=q;dsimp only at hc hpp HH;obtain⟨n,hn⟩:∃n,n=ql.length:=⟨_,rfl⟩
   rw[<-hn]at hpp HH;obtain⟨g,c,cur,fr,rfl,hcap,_⟩:=HH.out.pos hpp.1;have HQ:=iH hq;have HNN:=iH hn;have HPP:=iH hpp;have hn16:(n:Int)<=16:=by omega
   have HLEN:Hid (kq.length<=100000):=by
    show _<=_;have:=congrArg List.length HK.out.2;rw[List.length_map,List.length_map,List.length_take]at this;omega
   clear hq hn hpp hcap hk;go_wp2_with (first
    |(refine bs_list rfl 84 86 _ rfl #[.int .i64 (n:Int),.int .i64 1,.slice none 0 0,.slice (some ⟨g,0,none⟩) n c] 4 (.agg zeroR) rfl rfl (by decide) (by decide) Tryz.underlying84 (by kernel_rfl) ?_;intro w3 h3 hb3 hs3;have HG3:=iH h3;have HB3:=iH hb3;clear h3 hb3 hs3)
    |(refine rows_list rfl (z:=.agg zeroR) (by_:=64) 84 86 _ _ rfl rfl (HP.out.later HB3.out) wr.heap.size rfl HG3.out rfl (by simp[Value.oneCell']) Tryz.underlying84 (by kernel_rfl) rfl (by decide) (by rw[List.length_map,List.length_map];exact HLEN.out) (by decide) ?_;intro v6 w6 hp6 hg6;have HP6:=iH hp6;have HG6:=iH hg6;clear hp6 hg6))
   go_roundw
   case rel=>
    have hp3:=HP.out.later HB3.out;have hkT:∀X,_=some X->w1.heap.size<=X:=fun X e=>by
     rcases hp3.own with h|⟨g',_,_,h,h2,_⟩
     ·have e':=h.symm.trans e;cases e'
     ·have e':=h.symm.trans e;obtain rfl:=Option.some.inj e';exact h2
    refine⟨k+1,kq++[(⟨.slice none 0 0,.slice (some ⟨g,0,none⟩) n c,ql,n,rfl,rfl⟩,ql)],by simp,by omega,?_,⟨fun x hx=> ?_,?_⟩,?_⟩
    ·rw[List.map_append,List.map_append]
     have e:((kidc 0 ⟨.slice none 0 0,.slice (some ⟨g,0,none⟩) n c,ql,n,rfl,rfl⟩).toArray:Array Value)=#[.int .i64 (n:Int),.int .i64 1,.slice none 0 0,.slice (some ⟨g,0,none⟩) n c]:=by rw[HNN.out];rfl
     rw[List.map_singleton,List.map_singleton,e];exact HP6.out
    ·rcases List.mem_append.1 hx with hx|hx
     ·exact⟨((HK.out.1 x hx).1.later HB3.out).kept HG6.out (fun X e h=>by have:=hkT X e;omega),(HK.out.1 x hx).2⟩
     ·rw[List.mem_singleton]at hx
      subst hx;refine⟨⟨rfl,HNN.out,HPP.out.1,HPP.out.2,?_⟩,rfl⟩;have hh:=HH.out.old;exact((hh.later (tW HB.out HB3.out)).kept HG6.out (fun X e h=>by have:=hkT X e;omega))
    ·rw[List.map_append,HK.out.2,List.take_succ_eq_append_getElem hlt,List.map_append,<-HQ.out]
     rfl
    ·exact(tW HB.out HB3.out).trans (below_of_grown HG6.out (by have:=HB.out.size;have:=HB3.out.size;omega) hkT)
   case measure=>simp[intOf];omega
  ·obtain rfl:k=pl.length:=by omega
   go_wp2_with fail
   go_ret;have hk:=HK.out;rw[List.take_length,HPL.out]at hk;refine⟨_,rfl,kq.map (·.1),⟨?_,fun p hp=> ?_⟩,?_,fit_of hk.2 fun x hx=> ?_,tW HB1.out HB.out⟩
   ·have h:=(rows_cut HP.out).weak (S':=fun g=>w.heap.size<=g) (fun g hg=>Nat.le_trans HB1.out.size hg)
    rw[kid_cells,List.length_map]at h;exact h
   ·obtain⟨x,hx,rfl⟩:=List.mem_map.1 hp
    exact(hk.1 x hx).1.weak fun g hg=>hg.1
   ·rw[cat_leaf _ fun x hx=>(hk.1 x hx).2,hk.2,chunks_all]
   ·have h:=(hk.1 x hx)
    rw[h.1.2.1,h.2]
end Go.Proofs.YtengibnpebfblaaGreatDoor
