import Derived.Test.YtengibnpebfblaaGreatDoorB19
import Derived.Test.YtengibnpebfblaaGreatDoorB22
set_option maxRecDepth 1000000
set_option maxHeartbeats 8000000
set_option linter.unusedSimpArgs false
namespace Go.Proofs.YtengibnpebfblaaGreatDoor
open Go.RowKit
def Kq (S:Nat->Prop) (w w':World):Prop:=∀(g:Nat) (o:Obj),S g->w.heap[g]? =some o->w'.heap[g]? =some o
section
variable {S S' : Nat → Prop} {w w' w'' : World}
theorem Kq.later (hb:Below w.heap.size w w'):Kq S w w':=fun g _ _ h=>(hb.block g (gZ h)).trans h
theorem Kq.low {n₀:Nat} (hb:Below n₀ w w') (hS:∀g,S g->g<n₀):Kq S w w':=fun g _ hg h=>(hb.block g (hS g hg)).trans h
theorem Kq.only {X:Nat} (k:Only X w w') (hX:¬S X):Kq S w w':=fun _ _ hg h=>k.other h (fun e=>hX (e▸hg))
theorem Kq.grown {row:Option Nat} (hg:w.grownBy w' row) (hX:∀X,row=some X->¬S X):Kq S w w':=fun g _ hS h=>(hg.block g (gZ h) (fun e=>hX g e.symm hS)).trans h
theorem Kq.kp (h:Kq S w w'):Kp S w w':=fun g o hg _ e=>h g o hg e
theorem Kq.refl:Kq S w w:=fun _ _ _ e=>e
theorem Kq.trans (h:Kq S w w') (k:Kq S w' w''):Kq S w w'':=fun g o hg e=>k g o hg (h g o hg e)
theorem CutAt.imp {s n:Nat} {v:Value} {cs:List Value} (h:CutAt S w s v cs n) (k:Kq S w w') (hS:∀g,S g->g<w.heap.size->S' g):CutAt S' w' s v cs n:=by
 obtain⟨a,cap,h1,h2,h3,h4⟩:=h;refine⟨a,cap,h1,h2,h3,h4.imp_right ?_⟩;rintro⟨g,o,e,hg,hlt,h⟩;have hb:w.heap[g]? =some w.heap[g]:=Array.getElem?_eq_getElem hlt;have hb':=k g _ hg hb;exact⟨g,o,e,hS g hg hlt,(gZ hb'),fun j u hu=>(World.cell?_of_block (a:=⟨g,o+j,none⟩) (hb'.trans hb.symm)).trans (h j u hu)⟩
theorem HeadAt.imp {T:TypeId} {s n:Nat} {v:Value} {cs:List Value} (h:HeadAt S w T s v cs n) (k:Kq S w w') (hS:∀g,S g->g<w.heap.size->S' g):HeadAt S' w' T s v cs n:=by
 obtain⟨h0,h⟩:=h;refine⟨h0,h.imp_right ?_⟩;rintro⟨h1,g,c,cur,fr,h2,h3,hg,h4,h5⟩;exact⟨h1,g,c,cur,fr,h2,h3,hS g hg (gZ h4),k g _ hg h4,h5⟩
theorem NodeR.imp (k:Kq S w w') (hS:∀g,S g->g<w.heap.size->S' g):∀{h:Nat} {p:Kid},NodeR S w h p->NodeR S' w' h p
 |0,_,⟨h1,h2,h3,h4,h5⟩=>⟨h1,h2,h3,h4,h5.imp k hS⟩
 |_+1,_,⟨h1,h2,h3,ks,h4,h5,h6,h7⟩=>⟨h1,h2,h3,ks,h4.imp k hS,h5,h6,fun q hq=>⟨(h7 q hq).1,(h7 q hq).2.imp k hS⟩⟩
theorem RootR.imp {c:Array Value} {l:List Cel} (hn:RootR S w c l) (k:Kq S w w') (hS:∀g,S g->g<w.heap.size->S' g):RootR S' w' c l:=by
 rcases hn with hn|⟨h,p,h1,h2,h3,h4⟩
 ·exact .inl hn
 ·exact .inr ⟨h,p,h1,h2,h3.imp k hS,h4⟩
end
def innC (rc mc:Array Value) (d:Value) (n:Nat):Array Value:=rc++mc++ #[d,.int .i64 (n:Int)]
def itemE (k:Int) (l:List Cel):List Cel:=if k=4 then l else[]
def mapE (k:Int) (ks:List ByteArray) (xs:List Tr) (l:List Cel):List Ent:=(mkeys k ks xs).zip l
def InnAt (S:Nat->Prop) (W:World) (b:Nat) (k:Int) (ks:List ByteArray) (xs:List Tr) (l:List Cel):Prop:=
 ∃(rc mc:Array Value) (d:Value) (fr:Nat×Nat) (s:Nat) (n:Int),W.heap[b]? =some (.cells (innC rc mc d (nodL xs)) 103 fr)/\s<18446744073709551616/\RootR S W rc (itemE k l)/\MapAt S W s n (mapE k ks xs l) mc/\CutAt S W 1 d (iv (tal xs)) (tal xs).length
mutual
def VAt (S:Nat->Prop) (W:World):Tr->Cel->Prop
 | .nd k n t ks xs,x=>x.k=k/\x.n=n/\x.t=t/\((k<=3/\x.p=none)\/(4<=k/\∃(b:Nat) (l:List Cel),x.p=some ⟨b,0,none⟩/\S b/\VAtL S W xs l/\InnAt S W b k ks xs l))
def VAtL (S:Nat->Prop) (W:World):List Tr->List Cel->Prop
 |[],l=>l=[]
 |x::r,l=>∃c l',l=c::l'/\VAt S W x c/\VAtL S W r l'
end
theorem vAtL_len {S:Nat->Prop} {W:World}:∀{xs:List Tr} {l:List Cel},VAtL S W xs l->l.length=xs.length
 |[],l,h=>by rw[VAtL]at h;subst h;rfl
 |x::r,l,h=>by
  rw[VAtL]at h;obtain⟨c,l',rfl,_,h⟩:=h;rw[List.length_cons,List.length_cons,vAtL_len h]
theorem vAtL_at {S:Nat->Prop} {W:World}:∀{xs:List Tr} {l:List Cel} {j:Nat} (_:VAtL S W xs l) (hj:j<xs.length) (hl:j<l.length),VAt S W xs[j] l[j]
 |[],_,_,_,hj,_=>by simp at hj
 |x::r,l,0,h,_,_=>by
  rw[VAtL]at h;obtain⟨c,l',rfl,h,_⟩:=h;exact h
 |x::r,l,j+1,h,hj,hl=>by
  rw[VAtL]at h;obtain⟨c,l',rfl,_,h⟩:=h;exact vAtL_at h (by simpa using hj) (by simpa using hl)
theorem vAtL_of {S:Nat->Prop} {W:World}:∀{xs:List Tr} {l:List Cel},l.length=xs.length->(∀j (hj:j<xs.length) (hl:j<l.length),VAt S W xs[j] l[j])->VAtL S W xs l
 |[],l,h,_=>by rw[VAtL];exact List.eq_nil_of_length_eq_zero h
 |x::r,[],h,_=>by simp at h
 |x::r,c::l,h,hv=>by
  rw[VAtL];exact⟨c,l,rfl,hv 0 (by simp) (by simp),vAtL_of (by simpa using h) fun j hj hl=>hv (j+1) (by simpa using hj) (by simpa using hl)⟩
theorem vAtL_mem {S:Nat->Prop} {W:World} {xs:List Tr} {l:List Cel} (h:VAtL S W xs l) {j:Nat} {c:Cel} (hc:l[j]? =some c):∃a,xs[j]? =some a/\VAt S W a c:=by
 obtain⟨hl,rfl⟩:=List.getElem?_eq_some_iff.1 hc;have hj:j<xs.length:=by rw[<-vAtL_len h];exact hl
 exact⟨xs[j],List.getElem?_eq_getElem hj,vAtL_at h hj hl⟩
theorem vAtL_app {S:Nat->Prop} {W:World}:∀{xs ys:List Tr} {l m:List Cel},VAtL S W xs l->VAtL S W ys m->VAtL S W (xs++ys) (l++m)
 |[],_,l,m,h,hy=>by rw[VAtL]at h;subst h;exact hy
 |x::r,ys,l,m,h,hy=>by
  rw[VAtL]at h;obtain⟨c,l',rfl,h1,h2⟩:=h;rw[List.cons_append,List.cons_append,VAtL];exact⟨c,_,rfl,h1,vAtL_app h2 hy⟩
theorem vAtL_one {S:Nat->Prop} {W:World} {x:Tr} {c:Cel} (h:VAt S W x c):VAtL S W [x] [c]:=by
 rw[VAtL];exact⟨c,[],rfl,h,by rw[VAtL]⟩
theorem InnAt.imp {S S':Nat->Prop} {w w':World} {b:Nat} {k:Int} {ks:List ByteArray} {xs:List Tr} {l:List Cel} (h:InnAt S w b k ks xs l) (hb:S b) (hk:Kq S w w') (hS:∀g,S g->g<w.heap.size->S' g):InnAt S' w' b k ks xs l:=by
 obtain⟨rc,mc,d,fr,s,n,h1,h2,h3,h4,h5⟩:=h;exact⟨rc,mc,d,fr,s,n,hk b _ hb h1,h2,h3.imp hk hS,h4.imp hk.kp hS,h5.imp hk hS⟩
theorem vAt_imp {S S':Nat->Prop} {w w':World} (hk:Kq S w w') (hS:∀g,S g->g<w.heap.size->S' g) (a:Tr):∀x,VAt S w a x->VAt S' w' a x:=by
 induction a using tr_ind with
 |h k n t ks xs ih=>
  intro x hv;rw[VAt]at hv ⊢;obtain⟨h1,h2,h3,h4⟩:=hv;refine⟨h1,h2,h3,h4.imp_right ?_⟩;rintro⟨h4,b,l,h5,h6,h7,h8⟩;have hlt:b<w.heap.size:=by obtain⟨_,_,_,_,_,_,h,_⟩:=h8;exact(gZ h)
  refine⟨h4,b,l,h5,hS b h6 hlt,vAtL_of (vAtL_len h7) fun j hj hl=>ih _ (List.getElem_mem hj) _ (vAtL_at h7 hj hl),h8.imp h6 hk hS⟩
section
variable {S S' : Nat → Prop} {w w' : World} {a : Tr} {x : Cel} {xs : List Tr} {l : List Cel}
theorem VAt.imp (h:VAt S w a x) (hk:Kq S w w') (hS:∀g,S g->g<w.heap.size->S' g):VAt S' w' a x:=vAt_imp hk hS a x h
theorem VAt.later (h:VAt S w a x) (hb:Below w.heap.size w w'):VAt S w' a x:=h.imp (Kq.later hb) fun _ h _=>h
theorem VAt.weak (h:VAt S w a x) (hS:∀g,S g->S' g):VAt S' w a x:=h.imp Kq.refl fun g h _=>hS g h
theorem VAt.old (h:VAt S w a x):VAt (fun g=>S g/\g<w.heap.size) w a x:=h.imp Kq.refl fun _ h h'=>⟨h,h'⟩
theorem VAt.kq (h:VAt S w a x) (hk:Kq S w w'):VAt S w' a x:=h.imp hk fun _ h _=>h
theorem VAt.low {n₀:Nat} (h:VAt (fun g=>g<n₀) w a x) (hb:Below n₀ w w'):VAt (fun g=>g<n₀) w' a x:=h.kq (Kq.low hb fun _ h=>h)
theorem VAtL.imp (h:VAtL S w xs l) (hk:Kq S w w') (hS:∀g,S g->g<w.heap.size->S' g):VAtL S' w' xs l:=
 vAtL_of (vAtL_len h) fun _ hj hl=>(vAtL_at h hj hl).imp hk hS
theorem VAtL.later (h:VAtL S w xs l) (hb:Below w.heap.size w w'):VAtL S w' xs l:=h.imp (Kq.later hb) fun _ h _=>h
theorem VAtL.weak (h:VAtL S w xs l) (hS:∀g,S g->S' g):VAtL S' w xs l:=h.imp Kq.refl fun g h _=>hS g h
theorem VAtL.old (h:VAtL S w xs l):VAtL (fun g=>S g/\g<w.heap.size) w xs l:=h.imp Kq.refl fun _ h h'=>⟨h,h'⟩
theorem VAt.k (h:VAt S w a x):x.k=a.k:=by cases a;rw[VAt]at h;exact h.1
theorem VAt.n (h:VAt S w a x):x.n=a.n:=by cases a;rw[VAt]at h;exact h.2.1
theorem VAt.t (h:VAt S w a x):x.t=a.t:=by cases a;rw[VAt]at h;exact h.2.2.1
theorem VAt.leaf (h:VAt S w a x) (h3:a.k<=3):x.p=none:=by
 cases a with
 |nd k n t ks xs=>
  rw[VAt]at h;rcases h.2.2.2 with h|h
  ·exact h.2
  ·have h3':k<=3:=h3
   omega
theorem VAt.parts (h:VAt S w a x) (h4:4<=a.k):∃(b:Nat) (l:List Cel),x.p=some ⟨b,0,none⟩/\S b/\VAtL S w a.xs l/\InnAt S w b a.k a.ks a.xs l:=by
 cases a with
 |nd k n t ks xs=>
  have h4':4<=k:=h4;rw[VAt]at h;rcases h.2.2.2 with h|h
  ·omega
  ·exact h.2
theorem vAt_null (S:Nat->Prop) (w:World):VAt S w nullT zeroV:=by rw[VAt];exact⟨rfl,rfl,rfl,.inl ⟨by decide,rfl⟩⟩
theorem vAt_leaf (S:Nat->Prop) (w:World) {a:Tr} (h3:a.k<=3):VAt S w a ⟨a.k,a.n,a.t,none⟩:=by
 cases a with
 |nd k n t ks xs=>rw[VAt];exact⟨rfl,rfl,rfl,.inl ⟨h3,rfl⟩⟩
theorem vAt_inner {b:Nat} (h4:4<=a.k) (hb:S b) (hl:VAtL S w a.xs l) (hi:InnAt S w b a.k a.ks a.xs l):VAt S w a ⟨a.k,a.n,a.t,some ⟨b,0,none⟩⟩:=by
 cases a with
 |nd k n t ks xs=>rw[VAt];exact⟨rfl,rfl,rfl,.inr ⟨h4,b,l,rfl,hb,hl,hi⟩⟩
end
section
variable {S : Nat → Prop} {W : World} {b : Nat} {rc mc : Array Value} {d : Value} {n : Nat} {T : TypeId} {fr : Nat × Nat}
theorem innC_size (hr:rc.size=4) (hm:mc.size=6):(innC rc mc d n).size=12:=by simp[innC,hr,hm]
theorem innC_rope (hr:rc.size=4) (h:W.heap[b]? =some (.cells (innC rc mc d n) T fr)):W.rangeAt b 0 rc.toList:=fun j u hu=>cell_in h (by
 have hj:j<rc.size:=by simpa using(List.getElem?_eq_some_iff.1 hu).1
 rw[Nat.zero_add,innC,Array.getElem?_append_left (by simp;omega),Array.getElem?_append_left hj];simpa using hu)
theorem innC_map (hr:rc.size=4) (hm:mc.size=6) (h:W.heap[b]? =some (.cells (innC rc mc d n) T fr)):W.rangeAt b 4 mc.toList:=fun j u hu=>cell_in h (by
 have hj:j<mc.size:=by simpa using(List.getElem?_eq_some_iff.1 hu).1
 rw[innC,Array.getElem?_append_left (by simp;omega),Array.getElem?_append_right (by omega),hr,Nat.add_sub_cancel_left];simpa using hu)
theorem innC_tal (hr:rc.size=4) (hm:mc.size=6) (h:W.heap[b]? =some (.cells (innC rc mc d n) T fr)):W.rangeAt b 10 [d,.int .i64 (n:Int)]:=fun j u hu=>cell_in h (by
 rw[innC,Array.getElem?_append_right (by simp;omega)];have e:10+j-(rc++mc).size=j:=by simp;omega
 rw[e];simpa using hu)
end
end Go.Proofs.YtengibnpebfblaaGreatDoor
namespace Go.Proofs.YtengibnpebfblaaGreatDoor
open Go.RowKit
theorem tally_size:(Tryz.prog.info? 101).map (·.size)=some 2:=by kernel_rfl
theorem iv_places {S:Nat->Prop} {w:World} {d:Value} {l:List Int} (h:CutAt S w 1 d (iv l) l.length):PlacesAt w 1 d (fi fun j=>l.getD j 0) l.length:=
 h.places.congr fun j hj=>by
  rw[Nat.mul_one]at hj;have e:=iv_at l j hj;rw[List.getD_eq_getElem?_getD,e];rfl
theorem iv_cell {S:Nat->Prop} {w:World} {a:Option Addr} {c:Nat} {l:List Int} (h:CutAt S w 1 (.slice a l.length c) (iv l) l.length) (h0:0<l.length):∃g o,a=some ⟨g,o,none⟩/\∀j,j<l.length->w.cell? ⟨g,o+j,none⟩=some (.int .i64 (l.getD j 0)):=by
 obtain⟨g,o,c',e,_,_,_,hc⟩:=h.pos h0;simp only[Value.slice.injEq]at e;exact⟨g,o,e.1,fun j hj=>hc j _ (iv_at l j hj)⟩
theorem getD_out {l:List Int} {j:Nat} (h:l.length<=j):l.getD j 0=0:=by rw[List.getD_eq_getElem?_getD,List.getElem?_eq_none h];rfl
theorem cut_fresh {B g n c:Nat} {W:World} {cur:Array Value} {l:List Int} (hg:W.heap[g]? =some (.cells cur 3 (0,0))) (hB:B<=g) (hn:n=l.length) (hc:n<=c) (h:∀j,j<l.length->cur[j]? =some (.int .i64 (l.getD j 0))):
  CutAt (fun g=>B<=g) W 1 (.slice (some ⟨g,0,none⟩) n c) (iv l) l.length:=by
 subst hn;refine⟨_,c,rfl,hc,by rw[iv_len,Nat.mul_one],.inr ⟨g,0,rfl,hB,(gZ hg),fun j u hu=> ?_⟩⟩;have hj:j<l.length:=by have:=(List.getElem?_eq_some_iff.1 hu).1;rwa[iv_len]at this
 rw[iv_at l j hj]at hu;rw[Nat.zero_add];exact cell_in hg ((h j hj).trans hu)
def RngI (l:List Int):Prop:=∀j,0<=l.getD j 0/\l.getD j 0<=100000
theorem rng_tal {xs:List Tr} (h:xs.length<=100000):RngI (tal xs):=fun j=>by
 rw[tal_get];have:=cntD_le xs j;omega
theorem tl_depth (w:World) (a:Option Addr) (k c:Nat) (n:Int) (hk:k<=100000):Calls Tryz.prog 85 #[.agg #[.slice a k c,.int .i64 n]] w fun r w'=>r=.returned (.int .i64 ((k+1:Nat):Int))/\Below w.heap.size w w':=by
 have hk1:(k:Int)<=100000:=by omega
 have HB:=iH (Below.newly' w (.cells #[.slice a k c,.int .i64 n] 101));go_enter Tryz.func85,Tryz.ntmps85;go_wp2
 go_ret;exact⟨by first|rfl|simp,HB.out⟩
theorem tl_plus {S:Nat->Prop} (w:World) (d e:Value) (l m:List Int) (n p:Nat) (hd:CutAt S w 1 d (iv l) l.length) (he:CutAt S w 1 e (iv m) m.length) (hl:l.length<=100) (hm:m.length<=100) (hlb:RngI l) (hmb:RngI m) (hn:n<=100000) (hp:p<=100000):
  Calls Tryz.prog 49 #[.agg #[d,.int .i64 (n:Int)],.agg #[e,.int .i64 (p:Int)]] w fun r w'=>∃d',r=.returned (.agg #[d',.int .i64 ((n+p:Nat):Int)])/\CutAt (fun g=>w.heap.size<=g) w' 1 d' (iv (plusI l m)) (plusI l m).length/\Below w.heap.size w w':=by
 obtain⟨i,hi,hz,h1,h2⟩:=info_parts int_info;obtain⟨da,dc,rfl,_⟩:=hd.shape;obtain⟨ea,ec,rfl,_⟩:=he.shape;obtain⟨w3,hw3⟩:∃w3,((w.alloc (.cells #[.slice da l.length dc,.int .i64 (n:Int)] 101)).alloc (.cells #[.slice ea m.length ec,.int .i64 (p:Int)] 101)).alloc (.cells #[.slice none 0 0,.int .i64 0] 101)=w3:=⟨_,rfl⟩
 obtain⟨hb3,hx3,hy3,hz3,hs3⟩:=three_newV hw3;obtain⟨N,hN⟩:∃N,N=max l.length m.length:=⟨_,rfl⟩
 have hmx:max (l.length:Int) (m.length:Int)=(N:Int):=by omega
 have cx0:w3.cell? ⟨w.heap.size,0,none⟩=some (.slice da l.length dc):=cell_in hx3 rfl;have cy0:w3.cell? ⟨w.heap.size+1,0,none⟩=some (.slice ea m.length ec):=cell_in hy3 rfl;have HX3:=iH hx3;have HY3:=iH hy3;have HZ3:=iH hz3;have HB3:=iH hb3;have HS3:=iH hs3;have HD:=iH (hd.later hb3);have HE:=iH (he.later hb3);have HI:=iH (And.intro hi (And.intro hz (And.intro h1 h2)));have HN:=iH (And.intro hN (And.intro hl (And.intro hm (And.intro hn hp))));have HLB:=iH hlb;have HMB:=iH hmb;have hl':(l.length:Int)<=100:=by omega
 have hm':(m.length:Int)<=100:=by omega
 have hN':(N:Int)<=100:=by omega
 have hn':(n:Int)<=100000:=by omega
 have hp':(p:Int)<=100000:=by omega
 clear hi hz h1 h2 hb3 hx3 hy3 hz3 hs3 hd he hl hm hlb hmb hn hp hN;go_enter Tryz.func49,Tryz.ntmps49;go_upto_region 1 with fail
 clear hw3;go_upto_region 2 with(first
  |(refine wpList_make_s _ rfl _ _ 99 rfl 3 i (.int .i64 0) 1 Tryz.underlying99 HI.out.1 HI.out.2.1 HI.out.2.2.1 .i64 .i64 N rfl rfl (by rw[HI.out.2.2.2];omega) (by omega) ?_))
 clear hmx;obtain⟨w4,hw4⟩:∃w4,w4=w3.alloc (.cells (madeCells #[.int .i64 0] N) 3):=⟨_,rfl⟩
 have hb4:Below w3.heap.size w3 w4:=by rw[hw4];exact Below.newly' _ _
 have HG4:Hid (w4.heap[w3.heap.size]? =some (.cells (madeCells #[.int .i64 0] N) 3 (0,0))):=by show _=_;rw[hw4];exact heap_alloc_last _ _
 replace cx0:w4.cell? ⟨w.heap.size,0,none⟩=some (.slice da l.length dc):=(hb4.cell (World.block_lt_of_cell? _ _ cx0)).trans cx0;rw[<-hw4];have HD4:=iH (HD.out.later hb4);have HB4:=iH hb4;obtain⟨G,hG⟩:∃G,G=w3.heap.size:=⟨_,rfl⟩
 have HGE:=iH hG;rw[<-hG]at HG4 ⊢;clear hw4 hb4 hG cy0 HD;go_upto_region 3 with(first
  |(refine wpList_copy_s rfl _ _ 99 99 rfl 3 Tryz.underlying99 1 int_size G N N rfl _ rfl (fi fun j=>l.getD j 0) l.length (iv_places HD4.out) (by have:=HN.out.1;omega) 3 _ HG4.out (by rw[size_madeCells];have:=HN.out.1;omega) (fun _ _=>rfl) ?_;intro w5 c5 hg5 hs5 hc5 k5;have HG5:=iH hg5;have HS5:=iH hs5;have HC5:=iH hc5;have HK5:=iH k5;clear hg5 hs5 hc5 k5))
 have hge:=HGE.out;have hs3:=HS3.out;have HB5:Hid (Below w3.heap.size w3 w5):=HB4.out.trans (HK5.out.below (by omega));have HE5:=iH (HE.out.later HB5.out);have HX5:=iH ((HB5.out.block _ (by omega)).trans HX3.out);have HY5:=iH ((HB5.out.block _ (by omega)).trans HY3.out);have cy0:w5.cell? ⟨w.heap.size+1,0,none⟩=some (.slice ea m.length ec):=cell_in HY5.out rfl;have HA5:Hid (c5.size=N/\∀j,j<N->c5[j]? =some (.int .i64 (l.getD j 0))):=by
  refine⟨by rw[HS5.out,size_madeCells],fun j hj=> ?_⟩;rw[HC5.out j];split
  ·rfl
  ·rw[made_at _ _ _ (by omega),getD_out (by omega)]
   simp[Value.cells,Nat.mod_one]
 clear hge hs3 cx0 HG4 HD4 HS5 HC5 HK5 HB4;go_wp2_with fail
 go_loopw [23] (fun iv_ wr=>∃(q:Nat) (cur:Array Value),iv_=.int .i64 (q:Int)/\q<=m.length/\Hid (wr.heap[G]? =some (.cells cur 3 (0,0)))/\Hid (cur.size=N/\∀j,j<N->cur[j]? =some (.int .i64 (l.getD j 0+if j<q then m.getD j 0 else 0)))/\Hid (Below w3.heap.size w3 wr)) (fun iv_ _=>m.length-(intOf iv_).toNat)
 case atStart=>exact⟨0,c5,rfl,Nat.zero_le _,HG5,⟨HA5.out.1,fun j hj=>by rw[HA5.out.2 j hj];simp⟩,HB5⟩
 case round=>
  clear HG5 HA5 HB5 HX5 HY5 HE5 cy0;obtain⟨q,cur,rfl,hq,HG,HC,HB⟩:=hrel;by_cases hlt:q<m.length
  ·have hqN:q<N:=by have:=HN.out.1;omega
   have hqN':(q:Int)<(N:Int):=by omega
   have hlt':(q:Int)<(m.length:Int):=by omega
   obtain⟨x,hx⟩:∃x,x=l.getD q 0:=⟨_,rfl⟩
   obtain⟨y,hy⟩:∃y,y=m.getD q 0:=⟨_,rfl⟩
   have cg:wr.cell? ⟨G,q,none⟩=some (.int .i64 x):=by
    have:=HC.out.2 q hqN;rw[if_neg (by omega),Int.add_zero,<-hx]at this;exact cell_in HG.out this
   obtain⟨g,o,rfl,hcs⟩:=iv_cell (HE.out.later HB.out) (by omega);have cm:=hcs q hlt;rw[<-hy]at cm;have hxb:=HLB.out q;have hyb:=HMB.out q;rw[<-hx]at hxb;rw[<-hy]at hyb;obtain⟨hx0,hx1⟩:=hxb;obtain⟨hy0,hy1⟩:=hyb;have HX:=iH (And.intro hx hy);clear hcs hx hy;go_wp2_with (first
    |(refine st_cell rfl 3 _ _ rfl G q (.int .i64 (x+y)) rfl rfl rfl 3 cur HG.out int_size (by have:=HC.out.1;omega) ?_;intro w6 h6 k6;have HG6:=iH h6;have HK6:=iH k6;clear h6 k6))
   go_roundw
   case rel=>
    refine⟨q+1,_,by simp,by omega,HG6,⟨by rw[Array.size_setIfInBounds];exact HC.out.1,fun j hj=> ?_⟩,HB.out.trans (HK6.out.below (by have:=HGE.out;omega))⟩;rw[Array.getElem?_setIfInBounds];by_cases e:q=j
    ·subst e
     rw[if_pos rfl,if_pos (by have:=HC.out.1;omega),if_pos (by omega),<-HX.out.1,<-HX.out.2]
    ·rw[if_neg e,HC.out.2 j hj]
     by_cases h:j<q
     ·rw[if_pos h,if_pos (by omega)]
     ·rw[if_neg h,if_neg (by omega)]
   case measure=>simp[intOf];omega
  ·obtain rfl:q=m.length:=by omega
   have hs3:=HS3.out;have hge:=HGE.out;have hx:=(HB.out.block w.heap.size (by omega)).trans HX3.out;have hy:=(HB.out.block (w.heap.size+1) (by omega)).trans HY3.out;have HZ:=iH ((HB.out.block (w.heap.size+2) (by omega)).trans HZ3.out);have cx1:wr.cell? ⟨w.heap.size,1,none⟩=some (.int .i64 (n:Int)):=cell_in hx rfl;have cy1:wr.cell? ⟨w.heap.size+1,1,none⟩=some (.int .i64 (p:Int)):=cell_in hy rfl;clear hx hy hs3 hge;go_wp2_with (first
    |(refine st_agg rfl 101 _ _ rfl (w.heap.size+2) #[.slice (some ⟨G,0,none⟩) N N,.int .i64 ((n:Int)+(p:Int))] rfl rfl 101 _ HZ.out tally_size rfl (by simp[Value.oneCell']) ?_;intro w7 h7 k7))
   have hs3:=HS3.out;have hge:=HGE.out;refine bodyPost_ret (results_cell_row rfl _ _ (w.heap.size+2) 101 _ (0,0) _ rfl h7 Tryz.underlying101 rfl tally_size) rfl ⟨_,by rw[Int.natCast_add],?_,(tW HB3.out HB.out).trans (k7.below (by omega))⟩;refine cut_fresh (k7.other HG.out (by omega)) (by omega) (by rw[plusI_len];exact HN.out.1) (Nat.le_refl _) fun j hj=> ?_
   rw[plusI_len,<-HN.out.1]at hj;rw[plusI_get _ _ (by have:=HN.out.1;omega),HC.out.2 j hj];split
   ·rfl
   ·rw[getD_out (l:=m) (by omega)]
end Go.Proofs.YtengibnpebfblaaGreatDoor
