import Derived.Test.YthmfgidbcghnfaaGreatDoorQ0
import Derived.Test.YthmfgidbcghnfaaGreatDoorQ19
set_option maxRecDepth 1000000
set_option maxHeartbeats 8000000
set_option linter.unusedSimpArgs false
namespace Go.Proofs.YthmfgidbcghnfaaGreatDoor
open Go.RowKit
theorem dF {W w:World} {a b c:Array Value} {A B C:TypeId} (e:((W.alloc (.cells a A)).alloc (.cells b B)).alloc (.cells c C)=w):
  Below W.heap.size W w/\w.heap[W.heap.size]? =some (.cells a A (0,0))/\w.heap[W.heap.size+1]? =some (.cells b B (0,0))/\w.heap[W.heap.size+2]? =some (.cells c C (0,0))/\w.heap.size=W.heap.size+3:=by
 obtain⟨w2,h2⟩:∃w2,(W.alloc (.cells a A)).alloc (.cells b B)=w2:=⟨_,rfl⟩
 obtain⟨h3,h4,h5,h6⟩:=fL h2;rw[h2]at e;subst e;have h:=aC w2 (.cells c C);rw[h6]at h;exact⟨Below.more h3 _,((Below.newly' w2 _).block _ hO).trans h4,((Below.newly' w2 _).block _ hO).trans h5,h,by simp[h6]⟩
theorem tR {o:Oper} {a:Act} {w:World} {K:Act->World->Prop} {Q:Exit->Act->World->Prop} (ty:TypeId) (x y:Operand) (ho:o.op=.store ty x y)
  (X k:Nat) (v:Value) (hx:a.eval x=.pointer (some ⟨X,k,none⟩)) (hy:a.eval y=v) (h1:v.oneCell'=true) (T:TypeId) (c:Array Value) (hB:w.heap[X]? =some (.cells c T (0,0)))
  (hi:(Tryz.prog.info? ty).map (·.size)=some 1) (hk:k<c.size)
  (h:∀w',w'.heap[X]? =some (.cells (c.setIfInBounds k v) T (0,0))->iL X w w'->K (a.put o.dst undef) w'):o.wp Tryz.prog a w K Q:=by
 unfold Oper.wp execOp;simp only[ho,hx,hy,Instr.storeAt,Instr.sureAddr,eG,eZ,cR,lX w X k T ty c v hB hk hi h1];exact h _ (lY w X _ _ _ _ hB) (iI _ _ _)
theorem aRm:(Tryz.prog.info? 122).map (·.size)=some 1:=by kernel_rfl
theorem aQt:(Tryz.prog.info? 123).map (·.size)=some 1:=by kernel_rfl
theorem aJj {a b c d:Value} (h1:a.oneCell'=true) (h2:b.oneCell'=true) (h3:c.oneCell'=true) (h4:d.oneCell'=true):(#[a,b,c,d]:Array Value).all (·.oneCell')=true:=by simp[h1,h2,h3,h4]
theorem aOY (h:Nat) (p:Kid) (v:Value):(fY h p).toArray.setIfInBounds 3 v=#[.int .i64 (p.l.length:Int),.int .i64 ((h+1:Nat):Int),p.a,v]:=by simp[fY]
theorem aOZ (h:Nat) (p:Kid) (v:Value):(fY h p).toArray.setIfInBounds 2 v=#[.int .i64 (p.l.length:Int),.int .i64 ((h+1:Nat):Int),v,p.b]:=by simp[fY]
theorem aSd {ks:List Kid} {k r:Nat} {x:Cel} (hk:k<ks.length) (y':Kid) (hy:y'.l=ks[k].l.set r x) (hr:r<ks[k].l.length):eS (ks.set k y')=(eS ks).set ((eS (ks.take k)).length+r) x:=by
 have Og:k<(ks.set k y').length:=by rw[fD];exact hk
 rw[nW Og,nW hk,List.take_set_of_le (aA _),List.getElem_set_self,List.drop_set_of_lt hO,hy,bG,bG,List.set_append,if_neg hO,mY,List.set_append,if_pos hr]
def aBC (h:Nat):Prop:=∀(S:Nat->Prop) (W:World) (p:Kid) (i:Nat) (x:Cel),eT S W h p->i<p.l.length->p.l.length<=200000->
  Calls Tryz.prog 280 #[.agg (fY h p).toArray,.int .i64 (i:Int),.agg (aL x)] W fun e W'=>∃c,e=.returned (.agg c)/\∃p':Kid,c=(fY h p').toArray/\p'.l=p.l.set i x/\p'.k=p.k/\eT (fun g=>S g\/W.heap.size<=g) W' h p'/\Below W.heap.size W W'
theorem aNX:aBC 0:=by
 intro S W p i x hp hi hN;obtain⟨w2,eh⟩:∃w2,((W.alloc (.cells (fY 0 p).toArray 125)).alloc (.cells (aL x) 37)).alloc (.cells #[.int .i64 0,.int .i64 0,.slice none 0 0,.slice none 0 0] 125)=w2:=⟨_,rfl⟩
 obtain⟨ah,fl,jh,jb,ed⟩:=dF eh;have j6:=iH jh;have aq:=iH ah;have bo:=iH jb;have HX2:=iH fl;have HS2:=iH ed;obtain⟨el,Js,qb,vh,Dn⟩:=hp;have Xq:=aSL xI aKT w2 x (Dn.later ah) (i:=i) hO hO (aL x) rfl;obtain⟨q,c,Bp,_⟩:=Dn.shape;have rm:w2.cell? ⟨W.heap.size,2,none⟩=some (.slice none 0 0):=by rw[<-el];exact aG fl rfl
 have N8:w2.cell? ⟨W.heap.size,3,none⟩=some (.slice q p.k c):=by rw[<-Bp];exact aG fl rfl
 rw[Bp]at Xq;have Aj:=iH Xq;have HP:=iH (And.intro el (And.intro Js (And.intro qb (And.intro vh hi))));have xx:=aCv;clear ah fl jh jb ed el Js qb vh Dn Bp Xq hi hN;go_enter Tryz.func280,Tryz.ntmps280;go_upto_region 1 with fail
 clear eh;go_wp2_with (first
  |(refine aW rfl 37 _ rfl (W.heap.size+1) rfl 37 _ _ _ j6.out Tryz.underlying37 rfl aF ?_)
  |(go_at_call 282;refine Aj.out.mono ?_;rintro e w3 ⟨v3,rfl,Xr,au⟩;obtain⟨q3,c3,rfl,_⟩:=Xr.shape;have Xs:=iH Xr;have be:=iH ((au.block _ uBv).trans HX2.out);have dp:=iH ((au.block _ uBv).trans bo.out);have av:=iH au;clear Xr au)
  |(refine lP rfl 123 _ _ rfl W.heap.size 3 (.slice q3 p.k c3) rfl rfl rfl 125 _ be.out aQt (show 3<4 by decide) ?_;intro w4 h4 k4;rw[aOY]at h4;have bw:=iH h4;have mv:=iH k4;have gg:=iH (k4.other dp.out hO);clear h4 k4)
  |(refine aW rfl 125 _ rfl W.heap.size rfl 125 _ _ _ bw.out Tryz.underlying125 rfl cV ?_)
  |(refine aV rfl 125 _ _ rfl (W.heap.size+2) #[.int .i64 (p.l.length:Int),.int .i64 ((0+1:Nat):Int),p.a,.slice q3 p.k c3] rfl rfl 125 _ gg.out cV rfl (aJj rfl rfl p.ha rfl) ?_;intro w5 h5 k5))
 obtain⟨k1,k2,k3,k4,CD⟩:=HP.out;have ed:=HS2.out;refine aN (bE rfl _ _ (W.heap.size+2) 125 _ (0,0) _ rfl h5 Tryz.underlying125 rfl cV) rfl ⟨_,rfl,⟨.slice none 0 0,.slice q3 p.k c3,p.l.set i x,p.k,rfl,rfl⟩,?_,rfl,rfl,⟨rfl,by simpa using k2,k3,k4,?_⟩,((tW aq.out av.out).trans (mv.out.below (aA _))).trans (k5.below hO)⟩
 ·simp[fY,k1]
 ·exact(((Xs.out.kept mv.out.by_ (fun X e=>by cases e;omega)).kept k5.by_ (fun X e=>by cases e;omega))).weak fun g hg=>.inr (aI aq.out.size hg)
theorem aLN (h:Nat) (ih:aBC h):aBC (h+1):=by
 intro S W p i x hp hi hN;obtain⟨w2,eh⟩:∃w2,((W.alloc (.cells (fY (h+1) p).toArray 125)).alloc (.cells (aL x) 37)).alloc (.cells #[.int .i64 0,.int .i64 0,.slice none 0 0,.slice none 0 0] 125)=w2:=⟨_,rfl⟩
 obtain⟨ah,fl,jh,jb,ed⟩:=dF eh;have j6:=iH jh;have aq:=iH ah;have bo:=iH jb;have HX2:=iH fl;have HS2:=iH ed;obtain⟨Bp,gd,ph,ks,hh,oe,hl,gv⟩:=hp;obtain⟨n,hn⟩:∃n,n=p.k:=⟨_,rfl⟩
 rw[<-hn]at gd ph hh oe;have Cs:=iH (aJ7 w2 h n i p ks (hh.later ah) oe gd ph uNx uNx);have Jr:=iH (hh.old.later ah);obtain⟨g,c,aj,fr,el,jq,hS,hg,ep⟩:=hh.pos gd;rw[el]at Jr;have rm:w2.cell? ⟨W.heap.size,2,none⟩=some (.slice (some ⟨g,0,none⟩) n c):=by rw[<-el];exact aG fl rfl
 have nc:Hid (∀k (hk:k<ks.length),w2.rangeAt g (k*4) (fY h ks[k])):=fun k hk=>jG (qZ (h:=h) hg ep hk) ah
 have HP:=iH (And.intro Bp (And.intro gd (And.intro ph (And.intro oe (And.intro hl hi)))));have ar:=iH gv;have mu:=iH hn;have Xt:Hid (n<=4096):=by show _<=_;omega
 have oq:=iH el;have nr:=iH hN;have xx:=fun w=>yG ⟨g,0,none⟩ n c w
 have x6:(n:Int)<=16:=by omega
 clear ah fl jh jb ed Bp gd ph hh oe hl gv hn el jq hS hg ep hi hN;go_enter Tryz.func280,Tryz.ntmps280;go_upto_region 1 with fail
 clear eh;go_upto_region 5 with(first
  |(refine aW rfl 125 _ rfl W.heap.size rfl 125 _ _ _ HX2.out Tryz.underlying125 rfl cV ?_)
  |(go_at_call 270;refine Cs.out.mono ?_;rintro e w3 ⟨k,r,rfl,Jw,au⟩;have Ct:=iH Jw;have Cu:=iH au;clear Jw au))
 obtain⟨ei,Jy,bu,Gl⟩:=Ct.out;have gj:=HP.out;have eo:=Gl (by rw[<-gj.2.2.2.2.1];exact gj.2.2.2.2.2);have au:Below w2.heap.size w2 w3.drew:=Cu.out.trans ((aY w3).mono Cu.out.size);have gb:Hid (w3.drew.cell? ⟨W.heap.size,2,none⟩=some (.slice (some ⟨g,0,none⟩) n c)/\w3.drew.rangeAt g (k*4) (fY h ks[k])/\w3.drew.heap[W.heap.size+1]? =some (.cells (aL x) 37 (0,0))):=
  ⟨(au.cell (p:=⟨W.heap.size,2,none⟩) (aO _ _ rm)).trans rm,jG (nc.out k ei) au,(au.block _ uBv).trans j6.out⟩
 have be:=iH ((au.block _ uBv).trans HX2.out);have dp:=iH ((au.block _ uBv).trans bo.out);have av:=iH (tW aq.out au);have Xs:=iH (Jr.out.later au);have E5:ks[k].l.length<=p.l.length:=by
  have h1:=aU List.length (nW ei);rw[aB,aB,<-gj.2.2.2.2.1]at h1;omega
 have Ak:=iH (ih (fun g=>S g/\g<W.heap.size) w3.drew ks[k] r x ((ar.out _ (aX ei)).2.old.later av.out) eo uWz);have Jk:=iH (fun(y':Kid) (hy:y'.l=ks[k].l.set r x)=>aSd ei y' hy eo);have Oi:=iH (ar.out _ (aX ei)).1;obtain⟨y,hy⟩:∃y,y=ks[k]:=⟨_,rfl⟩
 rw[<-hy]at gb Ak Jk Oi;have IT:=iH Jy;have Xu:Hid (k<n):=by show _<_;have:=gj.2.2.2.1;omega
 have T4:(k:Int)<(n:Int):=by have:=Xu.out;omega
 have Q4:k<n:=Xu.out;clear ei Jy bu Gl gj eo au E5 hy rm;refine bO (S:=fun V=>V.cell? ⟨W.heap.size,2,none⟩=some (.slice (some ⟨g,0,none⟩) n c)/\V.rangeAt g (k*4) (fY h y)/\V.heap[W.heap.size+1]? =some (.cells (aL x) 37 (0,0))) [13] uAu uIy (fun ab=> ?_);refine tkA 0 24 (h:=?_);refine tkA 1 25 (h:=?_);(try simp only[pq]);refine tkA 2 26 (h:=?_);refine tkA 3 27 (h:=?_);(try simp only[pq]);refine tkA 4 28 (h:=?_);refine tkA 5 29 (h:=?_);(try simp only[pq]);refine tkA 6 30 (h:=?_);refine tyA 7 31 (hy:=aLi uAz 125 _ rfl g (k*4) rfl (fY h y) _ (fun w hw=>hw.2.1) Tryz.underlying125 rfl cV) (h:=?_);(try simp only[pq]);refine tkA 8 32 (h:=?_);refine tyA 9 33 (hy:=aJ uAz 37 _ rfl (W.heap.size+1) rfl (aL x) 37 (0,0) _ (fun w hw=>hw.2.2) Tryz.underlying37 rfl aF) (h:=?_);(try simp only[pq]);refine tkO 10 (some 34) (h:=fun K hK=> ?_);go_simp;go_at_call 280;refine Ak.out.mono ?_;rintro e w4 ⟨c4,rfl,y4,tg,Ha,wy,sj,bh⟩;have mv:=iH (show _/\_/\_ from⟨((bh).cell (p:=⟨W.heap.size,2,none⟩) (aO _ _ gb.out.1)).trans gb.out.1,jG gb.out.2.1 bh,kW bh gb.out.2.2⟩);have bw:=iH (((bh).block _ (gZ be.out)).trans be.out);have gg:=iH (((bh).block _ (gZ dp.out)).trans dp.out);have bg:=iH (tW av.out bh);have vj:=iH tg;have pb:=iH (And.intro Ha wy);have Jz:=iH sj;have Xv:=iH bh;have Aj:=iH (aQr (sO h) (vT h) w4 y4 (Xs.out.later bh) Xu.out Xt.out c4 (by rw[tg]));clear bh tg Ha wy sj;(try dsimp only);refine hK.out _ _ uIy (fun ab=> ?_);clear hK K;(try simp only[pq]);refine tkO 11 (some 35) (h:=fun K hK=> ?_);go_simp;go_at_call 283;refine Aj.out.mono ?_;rintro e w5 ⟨v5,rfl,Xw,ay⟩;obtain⟨q5,c5,rfl,_⟩:=Xw.shape
 have xf:=iH (show _/\_/\_ from⟨((ay).cell (p:=⟨W.heap.size,2,none⟩) (aO _ _ mv.out.1)).trans mv.out.1,jG mv.out.2.1 ay,kW ay mv.out.2.2⟩);have fg:=iH (((ay).block _ (gZ bw.out)).trans bw.out);have gk:=iH (((ay).block _ (gZ gg.out)).trans gg.out);have bp:=iH (tW bg.out ay);have Uq:=iH Xw;have L8:=iH ay;clear ay Xw;(try dsimp only);refine hK.out _ _ uIy (fun ab=> ?_);clear hK K;(try simp only[pq]);refine tkA 12 36 (h:=?_);(try simp only[pq]);refine tkU 13 none (h:=fun K hK=> ?_);refine tR 122 _ _ rfl W.heap.size 2 (.slice q5 n c5) rfl rfl rfl 125 _ fg.out aRm (show 2<4 by decide) ?_;intro w6 h6 k6;refine hK.out _ _ ?_;clear hK K;(try simp only[pq]);refine bJ uAu ?_ _;rw[aOZ]at h6;have HX6:=iH h6;have pk:=iH (k6.other gk.out hO);have np:=iH k6;clear h6 k6;go_wp2_with (first
  |(refine aW rfl 125 _ rfl W.heap.size rfl 125 _ _ _ HX6.out Tryz.underlying125 rfl cV ?_)
  |(refine aV rfl 125 _ _ rfl (W.heap.size+2) #[.int .i64 (p.l.length:Int),.int .i64 ((h+1+1:Nat):Int),.slice q5 n c5,p.b] rfl rfl 125 _ pk.out cV rfl (aJj rfl rfl rfl p.hb) ?_;intro w7 h7 k7))
 obtain⟨k1,k2,k3,k4,CD,MW⟩:=HP.out;have ed:=HS2.out;have MX:w2.heap.size<=w3.heap.size:=Cu.out.size;have j0:w3.heap.size<=w4.heap.size:=Xv.out.size;have Ds:=mu.out;refine aN (bE rfl _ _ (W.heap.size+2) 125 _ (0,0) _ rfl h7 Tryz.underlying125 rfl cV) rfl ⟨_,rfl,⟨.slice q5 n c5,.slice none 0 0,p.l.set i x,n,rfl,rfl⟩,?_,rfl,Ds,⟨rfl,k2,k3,ks.set k y4,?_,?_,?_,fun q hq=> ?_⟩,(bp.out.trans (np.out.below (aA _))).trans (k7.below hO)⟩
 ·simp[fY,k1]
 ·exact(((Uq.out.kept np.out.by_ (fun X e=>by cases e;omega)).kept k7.by_ (fun X e=>by cases e;omega))).weak fun g hg=>.inr hO
 ·rw[fD];exact k4
 ·rw[Jk.out y4 pb.out.1,<-CD,<-IT.out]
 ·have hm:=List.mem_or_eq_of_mem_set hq
  rcases hm with hm|rfl
  ·refine⟨(ar.out q hm).1,?_⟩
   exact((((ar.out q hm).2.old.later bp.out).kept np.out.by_ (fun X e=>by cases e;rintro⟨_,h⟩;omega)).kept k7.by_ (fun X e=>by cases e;rintro⟨_,h⟩;omega)).weak fun g hg=>.inl hg.1
  ·refine⟨by rw[pb.out.2];exact Oi.out,?_⟩
   refine(((Jz.out.later L8.out).kept np.out.by_ (fun X e=>by cases e;rintro(⟨_,h⟩|h);omega;have h':w3.heap.size<=W.heap.size:=h;omega)).kept k7.by_ (fun X e=>by cases e;rintro(⟨_,h⟩|h);omega;have h':w3.heap.size<=W.heap.size+2:=h;omega)).weak fun g hg=> ?_
   rcases hg with hg|hg
   ·exact .inl hg.1
   ·have h':w3.heap.size<=g:=hg
    exact .inr hO
theorem aO0:∀h,aBC h
 |0=>aNX
 |h+1=>aLN h (aO0 h)
def Kq (S:Nat->Prop) (w w':World):Prop:=∀(g:Nat) (o:Obj),S g->w.heap[g]? =some o->w'.heap[g]? =some o
section
variable {S S' : Nat → Prop} {w w' Ea : World}
theorem Kq.later (hb:Below w.heap.size w w'):Kq S w w':=fun g _ _ h=>(hb.block g (gZ h)).trans h
theorem Kq.low {n₀:Nat} (hb:Below n₀ w w') (hS:∀g,S g->g<n₀):Kq S w w':=fun g _ hg h=>(hb.block g (hS g hg)).trans h
theorem Kq.only {X:Nat} (k:iL X w w') (hX:¬S X):Kq S w w':=fun _ _ hg h=>k.other h (fun e=>hX (e▸hg))
theorem Kq.grown {row:Option Nat} (hg:w.grownBy w' row) (hX:∀X,row=some X->¬S X):Kq S w w':=fun g _ hS h=>(hg.block g (gZ h) (fun e=>hX g e.symm hS)).trans h
theorem Kq.kp (h:Kq S w w'):Kp S w w':=fun g o hg _ e=>h g o hg e
theorem Kq.refl:Kq S w w:=fun _ _ _ e=>e
theorem Kq.trans (h:Kq S w w') (k:Kq S w' Ea):Kq S w Ea:=fun g o hg e=>k g o hg (h g o hg e)
theorem bY.imp {s n:Nat} {v:Value} {cs:List Value} (h:bY S w s v cs n) (k:Kq S w w') (hS:∀g,S g->g<w.heap.size->S' g):bY S' w' s v cs n:=by
 obtain⟨a,cap,h1,h2,h3,h4⟩:=h;refine⟨a,cap,h1,h2,h3,h4.imp_right ?_⟩;rintro⟨g,o,e,hg,hlt,h⟩;have hb:w.heap[g]? =some w.heap[g]:=Array.getElem?_eq_getElem hlt;have Bj:=k g _ hg hb;exact⟨g,o,e,hS g hg hlt,(gZ Bj),fun j u hu=>(World.cell?_of_block (a:=⟨g,o+j,none⟩) (Bj.trans hb.symm)).trans (h j u hu)⟩
theorem dE.imp {T:TypeId} {s n:Nat} {v:Value} {cs:List Value} (h:dE S w T s v cs n) (k:Kq S w w') (hS:∀g,S g->g<w.heap.size->S' g):dE S' w' T s v cs n:=by
 obtain⟨h0,h⟩:=h;refine⟨h0,h.imp_right ?_⟩;rintro⟨h1,g,c,aj,fr,h2,h3,hg,h4,h5⟩;exact⟨h1,g,c,aj,fr,h2,h3,hS g hg (gZ h4),k g _ hg h4,h5⟩
theorem eT.imp (k:Kq S w w') (hS:∀g,S g->g<w.heap.size->S' g):∀{h:Nat} {p:Kid},eT S w h p->eT S' w' h p
 |0,_,⟨h1,h2,h3,h4,h5⟩=>⟨h1,h2,h3,h4,h5.imp k hS⟩
 |_+1,_,⟨h1,h2,h3,ks,h4,h5,h6,h7⟩=>⟨h1,h2,h3,ks,h4.imp k hS,h5,h6,fun q hq=>⟨(h7 q hq).1,(h7 q hq).2.imp k hS⟩⟩
theorem cW.imp {c:Array Value} {l:List Cel} (hn:cW S w c l) (k:Kq S w w') (hS:∀g,S g->g<w.heap.size->S' g):cW S' w' c l:=by
 rcases hn with hn|⟨h,p,h1,h2,h3,h4⟩
 ·exact .inl hn
 ·exact .inr ⟨h,p,h1,h2,h3.imp k hS,h4⟩
end
def jQ (rc mc:Array Value) (d:Value) (n:Nat):Array Value:=rc++mc++ #[d,.int .i64 (n:Int)]
def sP (k:Int) (l:List Cel):List Cel:=if k=4 then l else[]
def nR (k:Int) (ks:List ByteArray) (xs:List Tr) (l:List Cel):List Ent:=(qD k ks xs).zip l
def aF5 (S:Nat->Prop) (W:World) (b:Nat) (k:Int) (ks:List ByteArray) (xs:List Tr) (l:List Cel):Prop:=
 ∃(rc mc:Array Value) (d:Value) (fr:Nat×Nat) (s:Nat) (n:Int),W.heap[b]? =some (.cells (jQ rc mc d (cU xs)) 140 fr)/\s<18446744073709551616/\cW S W rc (sP k l)/\fG S W s n (nR k ks xs l) mc/\bY S W 1 d (iv (tal xs)) (tal xs).length
mutual
def VAt (S:Nat->Prop) (W:World):Tr->Cel->Prop
 | .nd k n t ks xs,x=>x.k=k/\x.n=n/\x.t=t/\((k<=3/\x.p=none)\/(4<=k/\∃(b:Nat) (l:List Cel),x.p=some ⟨b,0,none⟩/\S b/\iN S W xs l/\aF5 S W b k ks xs l))
def iN (S:Nat->Prop) (W:World):List Tr->List Cel->Prop
 |[],l=>l=[]
 |x::r,l=>∃c l',l=c::l'/\VAt S W x c/\iN S W r l'
end
theorem gD {S:Nat->Prop} {W:World}:∀{xs:List Tr} {l:List Cel},iN S W xs l->l.length=xs.length
 |[],l,h=>by rw[iN]at h;subst h;rfl
 |x::r,l,h=>by
  rw[iN]at h;obtain⟨c,l',rfl,_,h⟩:=h;rw[aD,aD,gD h]
theorem tO {S:Nat->Prop} {W:World}:∀{xs:List Tr} {l:List Cel} {j:Nat} (_:iN S W xs l) (hj:j<xs.length) (hl:j<l.length),VAt S W xs[j] l[j]
 |[],_,_,_,hj,_=>by simp at hj
 |x::r,l,0,h,_,_=>by
  rw[iN]at h;obtain⟨c,l',rfl,h,_⟩:=h;exact h
 |x::r,l,j+1,h,hj,hl=>by
  rw[iN]at h;obtain⟨c,l',rfl,_,h⟩:=h;exact tO h uGu uNw
theorem wU {S:Nat->Prop} {W:World}:∀{xs:List Tr} {l:List Cel},l.length=xs.length->(∀j (hj:j<xs.length) (hl:j<l.length),VAt S W xs[j] l[j])->iN S W xs l
 |[],l,h,_=>by rw[iN];exact aQ h
 |x::r,[],h,_=>by simp at h
 |x::r,c::l,h,hv=>by
  rw[iN];exact⟨c,l,rfl,hv 0 uAy uAy,wU uDu fun j hj hl=>hv (j+1) uGu uNw⟩
theorem aGI {S:Nat->Prop} {W:World} {xs:List Tr} {l:List Cel} (h:iN S W xs l) {j:Nat} {c:Cel} (hc:l[j]? =some c):∃a,xs[j]? =some a/\VAt S W a c:=by
 obtain⟨hl,rfl⟩:=List.getElem?_eq_some_iff.1 hc;have hj:j<xs.length:=by rw[<-gD h];exact hl
 exact⟨xs[j],List.getElem?_eq_getElem hj,tO h hj hl⟩
theorem aGJ {S:Nat->Prop} {W:World}:∀{xs ys:List Tr} {l m:List Cel},iN S W xs l->iN S W ys m->iN S W (xs++ys) (l++m)
 |[],_,l,m,h,hy=>by rw[iN]at h;subst h;exact hy
 |x::r,ys,l,m,h,hy=>by
  rw[iN]at h;obtain⟨c,l',rfl,h1,h2⟩:=h;rw[aP,aP,iN];exact⟨c,_,rfl,h1,aGJ h2 hy⟩
theorem aF5.imp {S S':Nat->Prop} {w w':World} {b:Nat} {k:Int} {ks:List ByteArray} {xs:List Tr} {l:List Cel} (h:aF5 S w b k ks xs l) (hb:S b) (hk:Kq S w w') (hS:∀g,S g->g<w.heap.size->S' g):aF5 S' w' b k ks xs l:=by
 obtain⟨rc,mc,d,fr,s,n,h1,h2,h3,h4,h5⟩:=h;exact⟨rc,mc,d,fr,s,n,hk b _ hb h1,h2,h3.imp hk hS,h4.imp hk.kp hS,h5.imp hk hS⟩
theorem aQv {S S':Nat->Prop} {w w':World} (hk:Kq S w w') (hS:∀g,S g->g<w.heap.size->S' g) (a:Tr):∀x,VAt S w a x->VAt S' w' a x:=by
 induction a using kD with
 |h k n t ks xs ih=>
  intro x hv;rw[VAt]at hv ⊢;obtain⟨h1,h2,h3,h4⟩:=hv;refine⟨h1,h2,h3,h4.imp_right ?_⟩;rintro⟨h4,b,l,h5,h6,h7,h8⟩;have hlt:b<w.heap.size:=by obtain⟨_,_,_,_,_,_,h,_⟩:=h8;exact(gZ h)
  refine⟨h4,b,l,h5,hS b h6 hlt,wU (gD h7) fun j hj hl=>ih _ (aX hj) _ (tO h7 hj hl),h8.imp h6 hk hS⟩
section
variable {S S' : Nat → Prop} {w w' : World} {a : Tr} {x : Cel} {xs : List Tr} {l : List Cel}
theorem VAt.imp (h:VAt S w a x) (hk:Kq S w w') (hS:∀g,S g->g<w.heap.size->S' g):VAt S' w' a x:=aQv hk hS a x h
theorem VAt.later (h:VAt S w a x) (hb:Below w.heap.size w w'):VAt S w' a x:=h.imp (Kq.later hb) fun _ h _=>h
theorem VAt.weak (h:VAt S w a x) (hS:∀g,S g->S' g):VAt S' w a x:=h.imp Kq.refl fun g h _=>hS g h
theorem VAt.old (h:VAt S w a x):VAt (fun g=>S g/\g<w.heap.size) w a x:=h.imp Kq.refl fun _ h h'=>⟨h,h'⟩
theorem VAt.kq (h:VAt S w a x) (hk:Kq S w w'):VAt S w' a x:=h.imp hk fun _ h _=>h
theorem VAt.low {n₀:Nat} (h:VAt (fun g=>g<n₀) w a x) (hb:Below n₀ w w'):VAt (fun g=>g<n₀) w' a x:=h.kq (Kq.low hb fun _ h=>h)
theorem iN.imp (h:iN S w xs l) (hk:Kq S w w') (hS:∀g,S g->g<w.heap.size->S' g):iN S' w' xs l:=
 wU (gD h) fun _ hj hl=>(tO h hj hl).imp hk hS
theorem iN.later (h:iN S w xs l) (hb:Below w.heap.size w w'):iN S w' xs l:=h.imp (Kq.later hb) fun _ h _=>h
theorem iN.weak (h:iN S w xs l) (hS:∀g,S g->S' g):iN S' w xs l:=h.imp Kq.refl fun g h _=>hS g h
theorem iN.old (h:iN S w xs l):iN (fun g=>S g/\g<w.heap.size) w xs l:=h.imp Kq.refl fun _ h h'=>⟨h,h'⟩
theorem VAt.k (h:VAt S w a x):x.k=a.k:=by cases a;rw[VAt]at h;exact h.1
theorem VAt.n (h:VAt S w a x):x.n=a.n:=by cases a;rw[VAt]at h;exact h.2.1
theorem VAt.t (h:VAt S w a x):x.t=a.t:=by cases a;rw[VAt]at h;exact h.2.2.1
theorem VAt.leaf (h:VAt S w a x) (h3:a.k<=3):x.p=none:=by
 cases a with
 |nd k n t ks xs=>
  rw[VAt]at h;rcases h.2.2.2 with h|h
  ·exact h.2
  ·have tm:k<=3:=h3
   omega
theorem VAt.parts (h:VAt S w a x) (h4:4<=a.k):∃(b:Nat) (l:List Cel),x.p=some ⟨b,0,none⟩/\S b/\iN S w a.xs l/\aF5 S w b a.k a.ks a.xs l:=by
 cases a with
 |nd k n t ks xs=>
  have gn:4<=k:=h4;rw[VAt]at h;rcases h.2.2.2 with h|h
  ·omega
  ·exact h.2
theorem lT (S:Nat->Prop) (w:World):VAt S w jH gO:=by rw[VAt];exact⟨rfl,rfl,rfl,.inl ⟨by decide,rfl⟩⟩
theorem aNu (S:Nat->Prop) (w:World) {a:Tr} (h3:a.k<=3):VAt S w a ⟨a.k,a.n,a.t,none⟩:=by
 cases a with
 |nd k n t ks xs=>rw[VAt];exact⟨rfl,rfl,rfl,.inl ⟨h3,rfl⟩⟩
theorem aE6 {b:Nat} (h4:4<=a.k) (hb:S b) (hl:iN S w a.xs l) (hi:aF5 S w b a.k a.ks a.xs l):VAt S w a ⟨a.k,a.n,a.t,some ⟨b,0,none⟩⟩:=by
 cases a with
 |nd k n t ks xs=>rw[VAt];exact⟨rfl,rfl,rfl,.inr ⟨h4,b,l,rfl,hb,hl,hi⟩⟩
end
section
variable {S : Nat → Prop} {W : World} {b : Nat} {rc mc : Array Value} {d : Value} {n : Nat} {T : TypeId} {fr : Nat × Nat}
theorem nU (hr:rc.size=4) (hm:mc.size=6):(jQ rc mc d n).size=12:=by simp[jQ,hr,hm]
theorem sQ (hr:rc.size=4) (h:W.heap[b]? =some (.cells (jQ rc mc d n) T fr)):W.rangeAt b 0 rc.toList:=fun j u hu=>aG h (by
 have hj:j<rc.size:=by simpa using(List.getElem?_eq_some_iff.1 hu).1
 rw[eA,jQ,Array.getElem?_append_left uCy,Array.getElem?_append_left hj];simpa using hu)
theorem sR (hr:rc.size=4) (hm:mc.size=6) (h:W.heap[b]? =some (.cells (jQ rc mc d n) T fr)):W.rangeAt b 4 mc.toList:=fun j u hu=>aG h (by
 have hj:j<mc.size:=by simpa using(List.getElem?_eq_some_iff.1 hu).1
 rw[jQ,Array.getElem?_append_left uCy,Array.getElem?_append_right hO,hr,mY];simpa using hu)
theorem vY (hr:rc.size=4) (hm:mc.size=6) (h:W.heap[b]? =some (.cells (jQ rc mc d n) T fr)):W.rangeAt b 10 [d,.int .i64 (n:Int)]:=fun j u hu=>aG h (by
 rw[jQ,Array.getElem?_append_right uCy];have e:10+j-(rc++mc).size=j:=by simp;omega
 rw[e];simpa using hu)
end
end Go.Proofs.YthmfgidbcghnfaaGreatDoor
