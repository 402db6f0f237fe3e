import Derived.Test.YthmfgidbcghnfaaGreatDoorQ0
import Derived.Test.YthmfgidbcghnfaaGreatDoorQ21
import Derived.Test.YthmfgidbcghnfaaGreatDoorQ25
set_option maxRecDepth 1000000
set_option maxHeartbeats 8000000
set_option linter.unusedSimpArgs false
namespace Go.Proofs.YthmfgidbcghnfaaGreatDoor
open Go.RowKit
theorem aHR {S:Nat->Prop} {c:Array Value} {l:List Cel} (W:World) (h:cW S W c l) (i:Nat) (x:Cel) (hi:i<=l.length) (hN:l.length<=50000):
  Calls Tryz.prog 243 #[.agg c,.int .i64 (i:Int),.agg (aL x)] W fun e W'=>∃v,e=.returned v/\∃(hh:Nat) (ks:List Kid),jS (fun g=>S g\/W.heap.size<=g) W' hh v ks/\eS ks=qY l i x/\aSv hh ks/\Below W.heap.size W W':=by
 rcases h with⟨rfl,rfl⟩|⟨h,p,rfl,rfl,h3,h4⟩
 ·refine(aHS 0 S W (.slice none 0 0) [] i x ⟨rfl,.inl ⟨rfl,rfl⟩⟩ uAy hi).mono ?_
  rintro e W' ⟨v,rfl,ks,h1,h2,h3,h4⟩;exact⟨v,rfl,0,ks,h1.weak fun g hg=>.inr hg,h2,fun p hp=>⟨(h3.2 p hp).1,fun _=>.inl rfl⟩,h4⟩
 ·refine(aEf h S W p i x (min 2 p.k) h3 hi hN hO hO).mono ?_
  rintro e W' ⟨v,rfl,ks,h1,h2,h5,h6,h7⟩;exact⟨v,rfl,h,ks,h1,h2,fun y hy=>⟨(h6 y hy).2,fun _=>h4.imp_right fun h4=>by have:=(h6 y hy).1;omega⟩,h7⟩
theorem aT2 {S:Nat->Prop} {c:Array Value} {l:List Cel} (W:World) (h:cW S W c l) (i:Nat) (x:Cel) (hi:i<l.length) (hN:l.length<=200000):
    Calls Tryz.prog 274 #[.agg c,.int .i64 (i:Int),.agg (aL x)] W fun e W'=>∃c',e=.returned (.tuple #[.agg c',.int .i64 0])/\cW (fun g=>S g\/W.heap.size<=g) W' c' (l.set i x)/\Below W.heap.size W W':=by
  obtain⟨w2,eh⟩:∃w2,((W.alloc (.cells c 127)).alloc (.cells (aL x) 37)).alloc (.cells #[.int .i64 0,.int .i64 0,.slice none 0 0,.slice none 0 0] 127)=w2:=⟨_,rfl⟩
  obtain⟨ah,fl,jh,jb,ed⟩:=dF eh;have j6:=iH jh;have HX2:=iH fl;have bo:=iH jb;have aq:=iH ah;have HS2:=iH ed;have HS:=iH h.size;have HH:=iH (aAg w2 (h.later ah) (i:Int));rw[show decide (0<=(i:Int)/\(i:Int)<l.length)=true by simp;omega]at HH;have Hu:Hid (∀V,Below W.heap.size W V->Calls Tryz.prog 280 #[.agg c,.int .i64 (i:Int),.agg (aL x)] V fun e W'=>∃c',e=.returned (.agg c')/\cW (fun g=>(S g/\g<W.heap.size)\/V.heap.size<=g) W' c' (l.set i x)/\Below V.heap.size V W'):=by
    intro V hV;rcases h.old with⟨rfl,rfl⟩|⟨hh,p,rfl,rfl,h3,h4⟩
    ·simp at hi
    ·refine(aO0 hh _ V p i x (h3.later hV) hi hN).mono ?_
     rintro e W' ⟨c',rfl,p',rfl,e1,e2,h5,h6⟩;exact⟨_,rfl,.inr ⟨hh,p',rfl,e1,h5,by rw[e2];exact h4⟩,h6⟩
  obtain⟨l',qw⟩:∃l',l'=l.set i x:=⟨_,rfl⟩
  rw[<-qw]at Hu ⊢;clear ah fl jh jb ed h hi hN qw;go_enter Tryz.func274,Tryz.ntmps274;go_upto_region 1 with fail
  clear eh;go_wp2_with (first
    |(refine aW rfl 37 _ rfl (W.heap.size+1) rfl 37 _ _ _ Bt.out Tryz.underlying37 rfl aF ?_)
    |(refine aW rfl 127 _ rfl W.heap.size rfl 127 _ _ _ HX2.out Tryz.underlying127 rfl uEy ?_)
    |(go_at_call 242
      refine HH.out.mono ?_;rintro e w3 ⟨rfl,au⟩;have be:=iH ((au.block W.heap.size uBv).trans HX2.out);have Bt:=iH ((au.block (W.heap.size+1) uBv).trans j6.out);have dp:=iH ((au.block (W.heap.size+2) uBv).trans bo.out);have av:=iH (tW aq.out au);have cd:Hid (W.heap.size+3<=w3.heap.size):=uFv
      clear au)
    |(refine aW rfl 125 _ rfl W.heap.size rfl 127 _ _ _ be.out Tryz.underlying125 rfl uMu ?_)
    |(go_at_call 280
      refine(Hu.out _ av.out).mono ?_;rintro e w4 ⟨c4,rfl,Ai,bh⟩;obtain⟨y0,y1,q1,n1,c1,q2,n2,c2,rfl⟩:=Ai.four;have qk:=iH Ai;have gg:=iH ((bh.block (W.heap.size+2) uBz).trans dp.out);have bg:=iH bh;clear Ai bh)
    |(refine aV rfl 127 _ _ rfl (W.heap.size+2) _ rfl rfl 127 _ gg.out dM rfl (aJj rfl rfl rfl rfl) ?_;intro w5 h5 k5))
  refine aN (aR rfl _ _ (W.heap.size+2) 127 _ (0,0) _ rfl h5 Tryz.underlying127 rfl dM) rfl ⟨_,rfl,?_,?_⟩
  ·have gi:=cd.out
   refine(qk.out.kept k5.by_ (fun X e=>by cases e;rintro(⟨_,h⟩|h)<;>omega)).weak fun g hg=> ?_
   exact Ae6
  ·have gi:=cd.out
   exact(av.out.trans (bg.out.mono hO)).trans (k5.below hO)
theorem aDK {S:Nat->Prop} {c:Array Value} {l:List Cel} (W:World) (h:cW S W c l) (i:Nat) (x:Cel) (hi:i<l.length) (hN:l.length<=50000):
    Calls Tryz.prog 195 #[.agg c,.int .i64 (i:Int),.agg (aL x)] W fun e W'=>∃c',e=.returned (.tuple #[.agg c',.int .i64 0])/\cW (fun g=>S g\/W.heap.size<=g) W' c' (qY l i x)/\Below W.heap.size W W':=by
  obtain⟨w2,eh⟩:∃w2,((W.alloc (.cells c 127)).alloc (.cells (aL x) 37)).alloc (.cells #[.int .i64 0,.int .i64 0,.slice none 0 0,.slice none 0 0] 127)=w2:=⟨_,rfl⟩
  obtain⟨ah,fl,jh,jb,ed⟩:=dF eh;have j6:=iH jh;have HX2:=iH fl;have bo:=iH jb;have aq:=iH ah;have HS2:=iH ed;have HS:=iH h.size;have HH:=iH (aAg w2 (h.later ah) (i:Int));rw[show decide (0<=(i:Int)/\(i:Int)<l.length)=true by simp;omega]at HH;have E7:=iH (fun V (hV:Below W.heap.size W V)=>aHR V (h.old.later hV) i x hO hN);have rl:Hid ((qY l i x).length<=100000):=by show _<=_;unfold qY;rw[aB,bQ,aD,cG];omega
  obtain⟨l',qw⟩:∃l',l'=qY l i x:=⟨_,rfl⟩
  rw[<-qw]at E7 rl ⊢;clear ah fl jh jb ed h hi hN qw;go_enter Tryz.func195,Tryz.ntmps195;go_upto_region 1 with fail
  clear eh;go_wp2_with (first
    |(refine aW rfl 37 _ rfl (W.heap.size+1) rfl 37 _ _ _ Bt.out Tryz.underlying37 rfl aF ?_)
    |(refine aW rfl 127 _ rfl W.heap.size rfl 127 _ _ _ HX2.out Tryz.underlying127 rfl uEy ?_)
    |(go_at_call 242
      refine HH.out.mono ?_;rintro e w3 ⟨rfl,au⟩;have be:=iH ((au.block W.heap.size uBv).trans HX2.out);have Bt:=iH ((au.block (W.heap.size+1) uBv).trans j6.out);have dp:=iH ((au.block (W.heap.size+2) uBv).trans bo.out);have av:=iH (tW aq.out au);have cd:Hid (W.heap.size+3<=w3.heap.size):=uFv
      clear au)
    |(refine aW rfl 125 _ rfl W.heap.size rfl 127 _ _ _ be.out Tryz.underlying125 rfl uMu ?_)
    |(go_at_call 243
      refine(E7.out _ av.out).mono ?_;rintro e w4 ⟨v4,rfl,X5,ks,sj,tg,tw,bh⟩;have HT:=iH (aJ8 w4 X5 v4 ks sj tw (by rw[tg];exact rl.out));rw[tg]at HT;obtain⟨a4,X6,rfl,_⟩:=sj.1.shape;have gg:=iH ((bh.block (W.heap.size+2) uBz).trans dp.out);have bg:=iH bh;clear sj tg tw bh)
    |(go_at_call 151
      refine HT.out.mono ?_;rintro e w7 ⟨c7,rfl,Gq,E8⟩;obtain⟨y0,y1,q1,n1,c1,q2,n2,c2,rfl⟩:=Gq.four;have Gs:=iH Gq;have yc:=iH E8;have Ol:=iH ((E8.block (W.heap.size+2) (by have:=cd.out;have:=bg.out.size;omega)).trans gg.out);clear Gq E8)
    |(refine aV rfl 127 _ _ rfl (W.heap.size+2) _ rfl rfl 127 _ Ol.out dM rfl (aJj rfl rfl rfl rfl) ?_;intro w5 h5 k5))
  refine aN (aR rfl _ _ (W.heap.size+2) 127 _ (0,0) _ rfl h5 Tryz.underlying127 rfl dM) rfl ⟨_,rfl,?_,?_⟩
  ·have gi:=cd.out
   exact Ae7
  ·have gi:=cd.out
   have Ac:=bg.out.size;exact((av.out.trans (bg.out.mono hO)).trans (yc.out.mono hO)).trans (k5.below hO)
theorem aDL {S:Nat->Prop} {c:Array Value} {l:List Cel} (W:World) (h:cW S W c l) (i:Nat) (x:Cel) (hi:i=l.length) (hN:l.length<=50000):
    Calls Tryz.prog 195 #[.agg c,.int .i64 (i:Int),.agg (aL x)] W fun e W'=>∃c',e=.returned (.tuple #[.agg c',.int .i64 0])/\cW (fun g=>S g\/W.heap.size<=g) W' c' (qY l i x)/\Below W.heap.size W W':=by
  obtain⟨w2,eh⟩:∃w2,((W.alloc (.cells c 127)).alloc (.cells (aL x) 37)).alloc (.cells #[.int .i64 0,.int .i64 0,.slice none 0 0,.slice none 0 0] 127)=w2:=⟨_,rfl⟩
  obtain⟨ah,fl,jh,jb,ed⟩:=dF eh;have j6:=iH jh;have HX2:=iH fl;have bo:=iH jb;have aq:=iH ah;have HS2:=iH ed;have HS:=iH h.size;have HH:=iH (aAg w2 (h.later ah) (i:Int));rw[show decide (0<=(i:Int)/\(i:Int)<l.length)=false by simp;omega]at HH;have bz:=iH (fun V (hV:Below W.heap.size W V)=>aFz V (h.later hV));rw[<-hi]at bz;have E7:=iH (fun V (hV:Below W.heap.size W V)=>aHR V (h.old.later hV) i x hO hN);have rl:Hid ((qY l i x).length<=100000):=by show _<=_;unfold qY;rw[aB,bQ,aD,cG];omega
  obtain⟨l',qw⟩:∃l',l'=qY l i x:=⟨_,rfl⟩
  rw[<-qw]at E7 rl ⊢;clear ah fl jh jb ed h hi hN qw;go_enter Tryz.func195,Tryz.ntmps195;go_upto_region 1 with fail
  clear eh;go_wp2_with (first
    |(refine aW rfl 37 _ rfl (W.heap.size+1) rfl 37 _ _ _ Re.out Tryz.underlying37 rfl aF ?_)
    |(refine aW rfl 127 _ rfl W.heap.size rfl 127 _ _ _ HX2.out Tryz.underlying127 rfl uEy ?_)
    |(go_at_call 242
      refine HH.out.mono ?_;rintro e w3 ⟨rfl,au⟩;have be:=iH ((au.block W.heap.size uBv).trans HX2.out);have Bt:=iH ((au.block (W.heap.size+1) uBv).trans j6.out);have dp:=iH ((au.block (W.heap.size+2) uBv).trans bo.out);have av:=iH (tW aq.out au);have cd:Hid (W.heap.size+3<=w3.heap.size):=uFv
      clear au)
    |(refine aW rfl 127 _ rfl W.heap.size rfl 127 _ _ _ be.out Tryz.underlying127 rfl uEy ?_)
    |(go_at_call 63
      refine(bz.out _ av.out).mono ?_;rintro e w6 ⟨rfl,Cv⟩;have HX6:Hid (w6.heap[W.heap.size]? =some (.cells c 127 (0,0))):=uGw
      have Re:Hid (w6.heap[W.heap.size+1]? =some (.cells (aL x) 37 (0,0))):=uFx
      have pk:Hid (w6.heap[W.heap.size+2]? =some (.cells #[.int .i64 0,.int .i64 0,.slice none 0 0,.slice none 0 0] 127 (0,0))):=uFy
      have ek:Hid (Below W.heap.size W w6):=uHx
      have Rf:Hid (W.heap.size+3<=w6.heap.size):=uRu
      clear Cv)
    |(refine aW rfl 125 _ rfl W.heap.size rfl 127 _ _ _ HX6.out Tryz.underlying125 rfl uMu ?_)
    |(go_at_call 243
      refine(E7.out _ ek.out).mono ?_;rintro e w4 ⟨v4,rfl,X5,ks,sj,tg,tw,bh⟩;have HT:=iH (aJ8 w4 X5 v4 ks sj tw (by rw[tg];exact rl.out));rw[tg]at HT;obtain⟨a4,X6,rfl,_⟩:=sj.1.shape;have gg:=iH ((bh.block (W.heap.size+2) (by have:=Rf.out;omega)).trans pk.out);have bg:=iH bh;clear sj tg tw bh)
    |(go_at_call 151
      refine HT.out.mono ?_;rintro e w7 ⟨c7,rfl,Gq,E8⟩;obtain⟨y0,y1,q1,n1,c1,q2,n2,c2,rfl⟩:=Gq.four;have Gs:=iH Gq;have yc:=iH E8;have Ol:=iH ((E8.block (W.heap.size+2) (by have:=Rf.out;have:=bg.out.size;omega)).trans gg.out);clear Gq E8)
    |(refine aV rfl 127 _ _ rfl (W.heap.size+2) _ rfl rfl 127 _ Ol.out dM rfl (aJj rfl rfl rfl rfl) ?_;intro w5 h5 k5))
  refine aN (aR rfl _ _ (W.heap.size+2) 127 _ (0,0) _ rfl h5 Tryz.underlying127 rfl dM) rfl ⟨_,rfl,?_,?_⟩
  ·have gi:=Rf.out
   exact Ae7
  ·have gi:=Rf.out
   have Ac:=bg.out.size;exact((ek.out.trans (bg.out.mono hO)).trans (yc.out.mono hO)).trans (k5.below hO)
theorem aDJ {S:Nat->Prop} {c:Array Value} {l:List Cel} (W:World) (h:cW S W c l) (i:Int) (x:Cel) (hi:¬(0<=i/\i<=l.length)):
    Calls Tryz.prog 195 #[.agg c,.int .i64 i,.agg (aL x)] W fun e W'=>e=.returned (.tuple #[.agg oA,.int .i64 4])/\Below W.heap.size W W':=by
  obtain⟨w2,eh⟩:∃w2,((W.alloc (.cells c 127)).alloc (.cells (aL x) 37)).alloc (.cells #[.int .i64 0,.int .i64 0,.slice none 0 0,.slice none 0 0] 127)=w2:=⟨_,rfl⟩
  obtain⟨ah,fl,jh,jb,ed⟩:=dF eh;have j6:=iH jh;have HX2:=iH fl;have bo:=iH jb;have aq:=iH ah;have HS2:=iH ed;have HS:=iH h.size;have HH:=iH (aAg w2 (h.later ah) i);rw[show decide (0<=i/\i<l.length)=false by simp;omega]at HH;have bz:=iH (fun V (hV:Below W.heap.size W V)=>aFz V (h.later hV));obtain⟨n,hn⟩:∃n,n=l.length:=⟨_,rfl⟩
  rw[<-hn]at bz hi;have bn:(i==(n:Int))=false:=aE.2 hO;have JB:¬i=(n:Int):=by omega
  clear ah fl jh jb ed h hi hn;go_enter Tryz.func195,Tryz.ntmps195;go_upto_region 1 with fail
  clear eh;go_wp2_with (first
    |(refine aW rfl 127 _ rfl W.heap.size rfl 127 _ _ _ HX2.out Tryz.underlying127 rfl uEy ?_)
    |(go_at_call 242
      refine HH.out.mono ?_;rintro e w3 ⟨rfl,au⟩;have be:=iH ((au.block W.heap.size uBv).trans HX2.out);have Bt:=iH ((au.block (W.heap.size+1) uBv).trans j6.out);have dp:=iH ((au.block (W.heap.size+2) uBv).trans bo.out);have av:=iH (tW aq.out au);have cd:Hid (W.heap.size+3<=w3.heap.size):=uFv
      clear au)
    |(refine aW rfl 127 _ rfl W.heap.size rfl 127 _ _ _ be.out Tryz.underlying127 rfl uEy ?_)
    |(go_at_call 63
      refine(bz.out _ av.out).mono ?_;rintro e w6 ⟨rfl,Cv⟩;have HX6:Hid (w6.heap[W.heap.size]? =some (.cells c 127 (0,0))):=uGw
      have Re:Hid (w6.heap[W.heap.size+1]? =some (.cells (aL x) 37 (0,0))):=uFx
      have pk:Hid (w6.heap[W.heap.size+2]? =some (.cells #[.int .i64 0,.int .i64 0,.slice none 0 0,.slice none 0 0] 127 (0,0))):=uFy
      have ek:Hid (Below W.heap.size W w6):=uHx
      have Rf:Hid (W.heap.size+3<=w6.heap.size):=uRu
      clear Cv)
    |(refine aV rfl 127 _ _ rfl (W.heap.size+2) oA rfl rfl 127 _ pk.out dM rfl (aJj rfl rfl rfl rfl) ?_;intro w5 h5 k5))
  exact aN (aR rfl _ _ (W.heap.size+2) 127 _ (0,0) _ rfl h5 Tryz.underlying127 rfl dM) rfl ⟨rfl,ek.out.trans (k5.below hO)⟩
theorem aLQ {S:Nat->Prop} {c:Array Value} {l:List Cel} (W:World) (h:cW S W c l) (i:Nat) (x:Cel) (hi:i<=l.length) (hN:l.length<=50000):
  Calls Tryz.prog 195 #[.agg c,.int .i64 (i:Int),.agg (aL x)] W fun e W'=>∃c',e=.returned (.tuple #[.agg c',.int .i64 0])/\cW (fun g=>S g\/W.heap.size<=g) W' c' (qY l i x)/\Below W.heap.size W W':=by
 rcases eB i l.length with h1|h1
 ·exact aDK W h i x h1 hN
 ·exact aDL W h i x hO hN
def hgt (w:World) (N:Nat):Nat:=match w.cell? ⟨N,1,none⟩with|some (.int _ x)=>x.toNat|_=>0
theorem aPg {w:World} {N h:Nat} {p:Kid} {T:TypeId} {fr:Nat×Nat} (hN:w.heap[N]? =some (.cells (fY h p).toArray T fr)):hgt w N=h+1:=by
 unfold hgt;rw[aG (j:=1) (v:=.int .i64 ((h+1:Nat):Int)) hN rfl];simp
theorem aPk {A B C:List Cel} {r:Nat} (hr:r<B.length):(A++B++C).getD (A.length+r) gO=B.getD r gO:=by
 rw[List.getD_eq_getElem?_getD,List.getD_eq_getElem?_getD,List.getElem?_append_left (by rw[aB];omega),List.getElem?_append_right hO,mY]
theorem aLR {S:Nat->Prop} {c:Array Value} {l:List Cel} (W:World) (h:cW S W c l) (i:Nat) (hi:i<l.length) (hN:l.length<=200000):
    Calls Tryz.prog 271 #[.agg c,.int .i64 (i:Int)] W fun e W'=>e=.returned (.tuple #[.agg (aL (l.getD i gO)),.bool true])/\Below W.heap.size W W':=by
  obtain⟨w1,ag⟩:∃w1,(W.alloc (.cells c 127)).alloc (.cells #[.int .i64 0,.int .i64 0,.string ⟨#[]⟩,.pointer none] 37)=w1:=⟨_,rfl⟩
  obtain⟨af,ai,aw,al⟩:=fL ag;have bl:=iH aw;have HX1:=iH ai;have HB1:=iH af;have HS1:=iH al;have HS:=iH h.size;have xw:=iH h.one;have HH:=iH (aAg w1 (h.later af) (i:Int));rw[show decide (0<=(i:Int)/\(i:Int)<l.length)=true by simp;omega]at HH;have HR:Hid (∃hh p,c=(fY hh p).toArray/\eT (fun g=>g<W.heap.size) W hh p/\i<p.l.length/\p.l.getD i gO=l.getD i gO/\p.l.length<=200000):=by
    rcases h.old with⟨rfl,rfl⟩|⟨hh,p,e1,rfl,h3,h4⟩
    ·simp at hi
    ·exact⟨hh,p,e1,h3.weak fun g hg=>hg.2,hi,rfl,hN⟩
  obtain⟨v,hv⟩:∃v,v=l.getD i gO:=⟨_,rfl⟩
  rw[<-hv]at HR ⊢;clear af ai aw al h hi hN hv;go_enter Tryz.func271,Tryz.ntmps271;go_upto_region 1 with fail
  clear ag;go_wp2_with (first
    |(refine aW rfl 127 _ rfl W.heap.size rfl 127 _ _ _ HX1.out Tryz.underlying127 rfl uEy ?_)
    |(go_at_call 242
      refine HH.out.mono ?_;rintro e w3 ⟨rfl,au⟩;have be:=iH ((au.block W.heap.size uBu).trans HX1.out);have dp:=iH ((au.block (W.heap.size+1) uBu).trans bl.out);have cd:Hid (W.heap.size+2<=w3.heap.size):=(by have h1:=HS1.out;have h2:=au.size;show _<=_;omega)
      have av:=iH (tW HB1.out au);clear au)
    |(refine aW rfl 125 _ rfl W.heap.size rfl 127 _ _ _ be.out Tryz.underlying125 rfl uMu ?_)
    |(refine aV rfl 125 _ _ rfl w3.heap.size c rfl rfl 125 _ (aC _ _) uMu (by rw[HS.out];rfl) xw.out ?_;intro w4 h4 k4;have Jz:=iH h4;have mv:Hid (Below w3.heap.size w3 w4):=(Below.newly' _ _).trans (k4.below (aA _));clear h4 k4))
  obtain⟨N,X8⟩:∃N,N=w3.heap.size:=⟨_,rfl⟩
  have tr:Hid (W.heap.size+2<=N):=by show _<=_;rw[X8];exact cd.out
  have bg:=iH (tW av.out mv.out);have gg:=iH ((mv.out.block (W.heap.size+1) uBz).trans dp.out);rw[<-X8]at Jz ⊢;clear X8 mv;obtain⟨hh,p,rfl,hp,CN,mj,hpl⟩:=HR.out;simp only[Act.put];go_loopw [1] (fun iv wr=>∃(hh:Nat) (p:Kid) (r:Nat),iv=.int .i64 (r:Int)/\Hid (wr.heap[N]? =some (.cells (fY hh p).toArray 125 (0,0)))/\Hid (eT (fun g=>g<W.heap.size) wr hh p/\r<p.l.length/\p.l.getD r gO=v/\p.l.length<=200000)/\Hid (wr.heap[W.heap.size+1]? =some (.cells #[.int .i64 0,.int .i64 0,.string ⟨#[]⟩,.pointer none] 37 (0,0)))/\Hid (Below W.heap.size W wr)) (fun _ wr=>hgt wr N)
  case atStart=>exact⟨hh,p,i,rfl,Jz,⟨hp.low bg.out,CN,mj,hpl⟩,gg,bg⟩
  case round=>
    clear HR hp CN mj hpl Jz bg be av HB1 HX1 HS1 HH HS xw gg dp bl cd;obtain⟨hh,q,r,rfl,HN,HP,HY,HB⟩:=hrel;obtain⟨hq,gh,Mb,Rh⟩:=HP.out;cases hh with
    |zero=>
     obtain⟨Ri,Ud,qx,Ya,CO⟩:=hq;obtain⟨g,cp,aj,fr,Us,jq,hS,hg,ep⟩:=CO.pos qx;have rm:wr.cell? ⟨N,2,none⟩=some (.slice none 0 0):=by rw[<-Ri];exact aG HN.out rfl
     have N8:wr.cell? ⟨N,3,none⟩=some (.slice (some ⟨g,0,none⟩) q.k cp):=by rw[<-Us];exact aG HN.out rfl
     have vm:Hid (wr.rangeAt g (r*4) (enV v)):=fun k u hu=>by
       have hk:k<4:=(List.getElem?_eq_some_iff.1 hu).1;have JC:q.l[r]? =some v:=by rw[List.getElem?_eq_getElem gh,<-Mb,List.getD_eq_getElem?_getD,List.getElem?_eq_getElem gh];rfl
       refine aG hg (ep _ u ?_);rw[zT xI q.l r k v JC hk];exact hu
     obtain⟨n,hn⟩:∃n,n=q.k:=⟨_,rfl⟩
     rw[<-hn]at N8;have MZ:r<n:=by omega
     have Rj:(r:Int)<(n:Int):=by omega
     have xx:=aHv;clear Ri Ud qx Ya CO Us jq hS hg ep gh Mb Rh hn HP HN;go_wp2_with (first
       |(refine cO rfl 37 _ rfl g (r*4) rfl (enV v) _ vm.out Tryz.underlying37 rfl aF ?_)
       |(refine aV rfl 37 _ _ rfl (W.heap.size+1) (aL v) rfl rfl 37 _ HY.out aF rfl (cE v) ?_;intro w6 h6 k6))
     exact aN (aR rfl _ _ (W.heap.size+1) 37 _ (0,0) _ rfl h6 Tryz.underlying37 rfl aF) rfl ⟨rfl,HB.out.trans (k6.below hO)⟩
    |succ h'=>
     obtain⟨Us,gd,ph,ks,Ut,oe,hl,gv⟩:=hq;obtain⟨n,hn⟩:∃n,n=q.k:=⟨_,rfl⟩
     rw[<-hn]at gd ph Ut oe;have Cs:=iH (aJ7 wr h' n r q ks Ut oe gd ph uNx uNx);obtain⟨g,cp,aj,fr,Ri,jq,hS,hg,ep⟩:=Ut.pos gd;have rm:wr.cell? ⟨N,2,none⟩=some (.slice (some ⟨g,0,none⟩) n cp):=by rw[<-Ri];exact aG HN.out rfl
     have nc:Hid (∀k (hk:k<ks.length),wr.rangeAt g (k*4) (fY h' ks[k])):=fun k hk=>qZ (h:=h') hg ep hk
     have ar:=iH gv;have HL:=iH (And.intro hl (And.intro oe (And.intro gh (And.intro Mb Rh))));have xx:=fun w=>aHu ⟨g,0,none⟩ n cp w
     have x6:(n:Int)<=16:=by omega
     have ew:Hid (N<wr.heap.size):=(gZ HN.out)
     clear Us gd ph Ut oe hl gv Ri jq hS hg ep gh Mb Rh hn HP;go_upto_region 8 with(first
       |(refine aW rfl 125 _ rfl N rfl 125 _ _ _ HN.out Tryz.underlying125 rfl cV ?_)
       |(go_at_call 270;refine Cs.out.mono ?_;rintro e w5 ⟨k,s,rfl,Jw,ay⟩;have Ct:=iH Jw;have bp:=iH ay;clear Jw ay))
     obtain⟨ei,Jy,bu,Gl⟩:=Ct.out;obtain⟨hl,oe,gh,Mb,Rh⟩:=HL.out;have eo:=Gl (by rw[<-hl];exact gh);have ay:=bp.out;have NA:w5.cell? ⟨N,2,none⟩=some (.slice (some ⟨g,0,none⟩) n cp):=(ay.cell (p:=⟨N,2,none⟩) ew.out).trans rm;have Rk:Hid (w5.rangeAt g (k*4) (fY h' ks[k])):=jG (nc.out k ei) ay;have E3:=iH ((ay.block N ew.out).trans HN.out);have gk:=iH ((ay.block (W.heap.size+1) (by have:=ew.out;have:=tr.out;omega)).trans HY.out);have L8:=iH (tW HB.out ay);have xh:Hid (eT (fun g=>g<W.heap.size) w5 h' ks[k]/\s<ks[k].l.length/\ks[k].l.getD s gO=v/\ks[k].l.length<=200000):=by
       refine⟨((ar.out _ (aX ei)).2.old.later ay).weak fun g hg=>hg.1,eo,?_,?_⟩
       ·rw[<-Mb,hl,nW ei,Jy,aPk eo]
       ·have h1:=aU List.length (nW ei)
        rw[aB,aB,<-hl]at h1;omega
     obtain⟨y,hy⟩:∃y,y=ks[k]:=⟨_,rfl⟩
     rw[<-hy]at Rk xh;have T4:(k:Int)<(n:Int):=by omega
     have Q4:k<n:=by omega
     clear ei Jy bu Gl hl oe gh Mb Rh eo ay hy rm Ct HL ar nc bp Cs;go_wp2_with (first
       |(refine cO rfl 125 _ rfl g (k*4) rfl (fY h' y) _ Rk.out Tryz.underlying125 rfl cV ?_)
       |(refine aV rfl 125 _ _ rfl N (fY h' y).toArray rfl rfl 125 _ E3.out cV rfl (aKD h' y) ?_;intro w6 h6 k6;have Up:=iH h6;have np:=iH k6;clear h6 k6))
     (try simp only[pq]);go_roundw
     case rel=>
       refine⟨h',y,s,rfl,Up,⟨?_,xh.out.2⟩,np.out.other gk.out (by have:=tr.out;omega),?_⟩
       ·exact xh.out.1.kept np.out.by_ (fun X e=>by cases e;intro h;have:=tr.out;omega)
       ·exact L8.out.trans (np.out.below (by have:=tr.out;omega))
     case measure=>
       rw[aPg Up.out,aPg HN.out];omega
theorem aJ9 {S:Nat->Prop} {c:Array Value} {l:List Cel} (W:World) (h:cW S W c l) (i:Int) (hi:¬(0<=i/\i<l.length)):
    Calls Tryz.prog 271 #[.agg c,.int .i64 i] W fun e W'=>e=.returned (.tuple #[.agg (aL gO),.bool false])/\Below W.heap.size W W':=by
  obtain⟨w1,ag⟩:∃w1,(W.alloc (.cells c 127)).alloc (.cells #[.int .i64 0,.int .i64 0,.string ⟨#[]⟩,.pointer none] 37)=w1:=⟨_,rfl⟩
  obtain⟨af,ai,aw,al⟩:=fL ag;have bl:=iH aw;have HX1:=iH ai;have HB1:=iH af;have HS1:=iH al;have HS:=iH h.size;have HH:=iH (aAg w1 (h.later af) i);rw[show decide (0<=i/\i<l.length)=false by simpa using hi]at HH;clear af ai aw al h hi;go_enter Tryz.func271,Tryz.ntmps271;go_upto_region 1 with fail
  clear ag;go_wp2_with (first
    |(refine aW rfl 127 _ rfl W.heap.size rfl 127 _ _ _ HX1.out Tryz.underlying127 rfl uEy ?_)
    |(go_at_call 242
      refine HH.out.mono ?_;rintro e w3 ⟨rfl,au⟩;have av:=iH (tW HB1.out au);have dp:=iH ((au.block (W.heap.size+1) uBu).trans bl.out);have na:Hid (W.heap.size+1<w3.heap.size):=(by have h1:=HS1.out;have h2:=au.size;show _<_;omega)
      clear au)
    |(refine aW rfl 37 _ rfl w3.heap.size rfl 37 _ _ _ (aC _ _) Tryz.underlying37 rfl aF ?_)
    |(refine aV rfl 37 _ _ rfl (W.heap.size+1) #[.int .i64 0,.int .i64 0,.string ⟨#[]⟩,.pointer none] rfl rfl 37 _ (((Below.newly' w3 _).block _ na.out).trans dp.out) aF rfl uAx ?_;intro w6 h6 k6))
  exact aN (aR rfl _ _ (W.heap.size+1) 37 _ (0,0) _ rfl h6 Tryz.underlying37 rfl aF) rfl ⟨rfl,(av.out.trans ((Below.newly' w3 _).mono av.out.size)).trans (k6.below hO)⟩
theorem aT3 {S:Nat->Prop} {c:Array Value} {l:List Cel} (W:World) (h:cW S W c l) (i:Int) (hN:l.length<=200000):
  Calls Tryz.prog 271 #[.agg c,.int .i64 i] W fun e W'=>e=.returned (.tuple #[.agg (aL (if 0<=i/\i<l.length then l.getD i.toNat gO else gO)),.bool (decide (0<=i/\i<l.length))])/\Below W.heap.size W W':=by
 by_cases hi:0<=i/\i<l.length
 ·obtain⟨j,rfl⟩:∃j:Nat,i=(j:Int):=⟨i.toNat,by omega⟩
  rw[if_pos hi,gT hi,kM];exact aLR W h j hO hN
 ·rw[if_neg hi,dB hi]
  exact aJ9 W h i hi
end Go.Proofs.YthmfgidbcghnfaaGreatDoor
