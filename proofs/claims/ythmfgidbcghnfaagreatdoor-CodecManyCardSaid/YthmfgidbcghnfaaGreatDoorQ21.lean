import Derived.Test.YthmfgidbcghnfaaGreatDoorQ0
import Derived.Test.YthmfgidbcghnfaaGreatDoorQ20
set_option maxRecDepth 1000000
set_option maxHeartbeats 8000000
set_option linter.unusedSimpArgs false
namespace Go.Proofs.YthmfgidbcghnfaaGreatDoor
open Go.RowKit
theorem Ch.range {B:Nat} {w:World} {E:Value} {c:Option Int} {l:List Int} (h:Ch B w E c l):(∀n∈l,-9223372036854775808<=n/\n<=9223372036854775807)/\(∀k,c=some k→ -9223372036854775808<=k/\k<=9223372036854775807):=by
 induction h with
 |code c hc=>exact⟨by simp,fun k e=>by cases e;exact hc⟩
 |bare b n _ h2 _ _=>exact⟨by simpa using h2,fun k e=>by cases e⟩
 |put b n u x c l _ h2 _ _ _ ih=>exact⟨by simpa using⟨h2,ih.1⟩,ih.2⟩
def aJZ (B:Nat) (w:World) (E:Value) (l:List Int):Prop:=(E=.nilIface/\l=[])\/∃c,Ch B w E c l
theorem aMT (B:Nat) (w:World):wI B w .nilIface=0:=by
 unfold wI;rw[dif_neg];rintro⟨c,l,h⟩;cases h
theorem aJZ.len {B:Nat} {w:World} {E:Value} {l:List Int} (h:aJZ B w E l):wI B w E=l.length:=by
 rcases h with⟨rfl,rfl⟩|⟨c,h⟩
 ·exact aMT B w
 ·exact aD8 h
theorem aJZ.cases {B:Nat} {w:World} {E:Value} {l:List Int} (h:aJZ B w E l):(E=.nilIface/\l=[])\/(∃c,E=.iface 31 (.int .i64 c)/\l=[])\/
  ∃b n U r,E=.iface 152 (.pointer (some ⟨b,0,none⟩))/\l=n::r/\b<B/\w.cell? ⟨b,0,none⟩=some (.int .i64 n)/\w.cell? ⟨b,1,none⟩=some U/\aJZ B w U r:=by
 rcases h with h|⟨c,h⟩
 ·exact .inl h
 ·cases h with
  |code c hc=>exact .inr (.inl ⟨c,rfl,rfl⟩)
  |bare b n h1 h2 h3 h4=>exact .inr (.inr ⟨b,n,_,[],rfl,rfl,h1,h3,h4,.inl ⟨rfl,rfl⟩⟩)
  |put b n u x c l h1 h2 h3 h4 h5=>exact .inr (.inr ⟨b,n,_,l,rfl,rfl,h1,h3,h4,.inr ⟨_,h5⟩⟩)
structure St (w wl:World) (v:Value) (pre:List Int):Prop where
 below:Below w.heap.size w wl
 tgt:∃p,wl.heap[w.heap.size]? =some (.cells #[p] 152 (0,0))
 ints:mV (w.heap.size+1) v pre wl
theorem St.start (w:World):St w (w.alloc (.cells #[.pointer none] 152)) (.slice none 0 0) []:=
 ⟨Below.newly' _ _,⟨_,heap_alloc_new w _⟩,mV.nil uAy⟩
theorem St.cell {w wl:World} {v:Value} {pre:List Int} (h:St w wl v pre):∃p,wl.cell? ⟨w.heap.size,0,none⟩=some p:=by
 obtain⟨p,hp⟩:=h.tgt;exact⟨p,by simp[World.cell?,hp]⟩
theorem St.unfrozen {w wl:World} {v:Value} {pre:List Int} (h:St w wl v pre):wl.frozen? ⟨w.heap.size,0,none⟩=false:=by
 obtain⟨p,hp⟩:=h.tgt;simp[World.frozen?,hp]
theorem St.ne {w wl:World} {v:Value} {pre:List Int} (h:St w wl v pre):v.ownBlock≠some w.heap.size:=by
 intro e;have:=(h.ints.1.lt _ e).1;omega
theorem St.more {w wl w1:World} {v:Value} {pre:List Int} (h:St w wl v pre) (hb:Below wl.heap.size wl w1):St w w1 v pre:=by
 obtain⟨p,hp⟩:=h.tgt;have hlt:w.heap.size<wl.heap.size:=(gZ hp)
 exact⟨h.below.trans (hb.mono (eH hlt)),⟨p,(hb.block _ hlt).trans hp⟩,h.ints.later hb⟩
theorem St.hit {w wl w1:World} {v:Value} {pre:List Int} (h:St w wl v pre) (x:Value) (hh:∃w2,Below wl.heap.size wl w2/\w1=w2.setCell ⟨w.heap.size,0,none⟩ x):St w w1 v pre/\w1.cell? ⟨w.heap.size,0,none⟩=some x:=by
 obtain⟨w2,hb,rfl⟩:=hh;have h2:=h.more hb;obtain⟨p,hp⟩:=h2.tgt;have hs:(w2.setCell ⟨w.heap.size,0,none⟩ x).heap[w.heap.size]? =some (.cells #[x] 152 (0,0)):=by
  simp[World.setCell,Array.getElem?_modify,hp]
 refine⟨⟨h2.below.setCell (p:=⟨w.heap.size,0,none⟩) (aA _) _,⟨x,hs⟩,?_⟩,by simp[World.cell?,hs]⟩;exact h2.ints.grown (row:=some w.heap.size) ⟨rfl,rfl,rfl,by simp[World.setCell],fun k _ hk=>Below.heap_setCell _ _ _ _ (fun e=>hk (by simp[e]))⟩ (.inr h2.ne)
theorem St.app {w wl w1:World} {v v':Value} {pre Q2:List Int} {x:Value} (h:St w wl v pre) (hc:wl.cell? ⟨w.heap.size,0,none⟩=some x) (hi:mV (w.heap.size+1) v' Q2 w1) (hg:wl.grownBy w1 v.ownBlock):St w w1 v' Q2/\w1.cell? ⟨w.heap.size,0,none⟩=some x:=by
 obtain⟨p,hp⟩:=h.tgt;have hlt:w.heap.size<wl.heap.size:=(gZ hp)
 refine⟨⟨h.below.grown hg (eH hlt) (fun k hk=>by have:=(h.ints.1.lt k hk).1;omega),⟨p,(hg.block _ hlt (fun e=>h.ne e.symm)).trans hp⟩,hi⟩,hg.cell hc (fun e=>h.ne e.symm)⟩
theorem St.old {w wl:World} {v:Value} {pre:List Int} (h:St w wl v pre) (b o:Nat) (x:Value) (hb:b<w.heap.size) (hc:w.cell? ⟨b,o,none⟩=some x):wl.cell? ⟨b,o,none⟩=some x:=(h.below.cell (p:=⟨b,o,none⟩) hb).trans hc
theorem aAx {B:Nat} (E:Value) (l:List Int) (w:World) (hg:ET w) (hr:aJZ B w E l) (hB:B<=w.heap.size) (hl:l.length<=1000):
  Calls Tryz.prog 57 #[E] w fun e w'=>∃v,e=.returned v/\mV w.heap.size v l w'/\Below w.heap.size w w':=by
 have HG:=iH hg;have HR:=iH hr;have HB:=iH hB;have HL:=iH hl;clear hg hr hB hl;go_enter Tryz.func57,Tryz.ntmps57;go_wp2
 go_loopw [0,3] (fun x v wl=>∃pre r,l=pre++r/\aJZ B w x r/\St w wl v pre) (fun x _ _=>wI B w x)
 case atStart=>exact⟨[],l,rfl,HR.out,St.start w⟩
 case round=>
  obtain⟨pre,r,BY,yi,df⟩:=hrel;have HS:=iH df;have Ul:=iH BY;have Um:=iH yi;have HE:=iH (HG.out.below df.below);clear df BY;rcases yi.cases with⟨rfl,rfl⟩|⟨c,rfl,rfl⟩|⟨b,n,U,r',rfl,rfl,hb,h0,h1,h2⟩
  ·clear yi
   go_wp2_with fail
   refine(aGu ⟨w.heap.size,0,none⟩ _ HE.out).mono ?_;exact Af3
  ·clear yi
   go_wp2_with fail
   refine(aK2 c ⟨w.heap.size,0,none⟩ _ HE.out).mono ?_;exact Af3
  ·obtain⟨q,hq⟩:=HS.out.cell
   have HQ:=iH hq;have H0:=iH h0;have H1:=iH h1;have H2:=iH h2;have aq:=iH (bK hb HB.out);clear yi hq h0 h1 h2 hb;go_wp2_with fail
   refine(aK1 ⟨b,0,none⟩ ⟨w.heap.size,0,none⟩ q _ HE.out HQ.out HS.out.unfrozen).mono ?_;rintro e w1 ⟨rfl,hh⟩;obtain⟨al,dr⟩:=HS.out.hit _ hh;have k0:=al.old b 0 _ aq.out H0.out;have HS1:=iH al;have bd:=iH dr;have bz:=iH (show pre.length+1<=1000 by have:=HL.out;rw[Ul.out]at this;simp at this;omega);clear hh al;go_wp2_with (at_builtin;go_loud (refine aBk rfl (.tmp 10) (.tmp 15) rfl rfl HS1.out.ints [n] _ rfl 1 1 rfl rfl (by have:=bz.out;simp;omega) ?_))
   intro v' w' hi Cn;obtain⟨ed,xq⟩:=HS1.out.app bd.out hi Cn;have k1:=ed.old b 1 _ aq.out H1.out;have HS2:=iH ed;clear ed hi Cn dr k0;go_wp2_with fail
   go_roundw
   case rel=>exact⟨pre++[n],r',by rw[Ul.out];simp,H2.out,HS2.out⟩
   case measure=>
    show wI B w U<wI B w (.iface 152 (.pointer (some ⟨b,0,none⟩)));rw[H2.out.len,Um.out.len];simp
theorem aI1 {B:Nat} (E:Value) (c:Option Int) (l:List Int) (w:World) (hg:ET w) (uq:Ch B w E c l) (hB:B<=w.heap.size) (hl:l.length<=1000):
  Calls Tryz.prog 57 #[E] w fun e w'=>∃v,e=.returned v/\mV w.heap.size v l w'/\Below w.heap.size w w':=aAx E l w hg (.inr ⟨c,uq⟩) hB hl
theorem aCT {B:Nat} (E:Value) (c:Option Int) (l:List Int) (n:Int) (w:World) (hg:ET w) (uq:Ch B w E c (l++[n])) (hB:B<=w.heap.size) (hl:l.length+1<=1000):
  Calls Tryz.prog 31 #[E] w fun e w'=>e=.returned (.tuple #[.int .i64 n,.bool true])/\Below w.heap.size w w':=by
 have HW:=iH (aI1 E c _ w hg uq hB uNw);have HR:=iH uq.range.1;clear hg uq hB;go_enter Tryz.func31,Tryz.ntmps31;go_wp2_with fail
 refine HW.out.mono ?_;rintro e w1 ⟨v,rfl,hi,hb⟩;obtain⟨a,cap,b,o,rfl,ha,hc,_,_⟩:=hi.reads HR.out;obtain rfl:=ha uAy;have He:=hc l.length uAy;rw[List.getD_eq_getElem?_getD,List.getElem?_append_right (aA _)]at He;simp only[aBF,List.getElem?_cons_zero,aBa]at He;have j5:((l++[n]).length:Int)=(l.length:Int)+1:=by simp
 have HB:=iH hb;clear hi hb ha hc;obtain⟨k,hk⟩:∃k,k=l.length:=⟨_,rfl⟩
 rw[<-hk]at He hl j5;rw[show(l++[n]).length=k+1 by simp[hk]]at*
 clear hk;go_wp2_with fail
 go_ret2;exact⟨rfl,HB.out⟩
def qY (l:List Cel) (i:Nat) (x:Cel):List Cel:=l.take i++x::l.drop i
theorem aCM {l:List Cel} {i:Nat} {x:Cel}:(qY l i x).length=l.length+1:=by
 unfold qY;rw[aB,aD,bQ,cG];omega
theorem aP7 {A B C:List Cel} {r:Nat} {x:Cel} (hr:r<=B.length):qY (A++B++C) (A.length+r) x=A++qY B r x++C:=by
 unfold qY;rw[bG A B C,List.take_append,bC hO,aBc,gM hO,mY,nM hr,List.drop_append_of_le_length hr];simp
def aSx (hv:Nat):Prop:=∀(S:Nat->Prop) (W:World) (b:Value) (l:List Cel) (i:Nat) (x:Cel),dE S W 37 4 b (ivV l) l.length->l.length<=16->i<=l.length->
  Calls Tryz.prog 243 #[.agg #[.int .i64 (l.length:Int),.int .i64 (hv:Int),.slice none 0 0,b],.int .i64 (i:Int),.agg (aL x)] W fun e W'=>∃v,e=.returned v/\∃ks,jS (fun g=>W.heap.size<=g) W' 0 v ks/\eS ks=qY l i x/\Fit (l.length+1) ks/\Below W.heap.size W W'
def aBD (h:Nat):Prop:=∀(S:Nat->Prop) (W:World) (p:Kid) (i:Nat) (x:Cel) (m:Nat),eT S W h p->i<=p.l.length->p.l.length<=50000->m<=8->m<=p.k->
  Calls Tryz.prog 243 #[.agg (fY h p).toArray,.int .i64 (i:Int),.agg (aL x)] W fun e W'=>∃v,e=.returned v/\∃ks,jS (fun g=>S g\/W.heap.size<=g) W' h v ks/\eS ks=qY p.l i x/\(1<=ks.length/\ks.length<=2)/\
   (∀y∈ks,m<=y.k/\(2<=ks.length->8<=y.k))/\Below W.heap.size W W'
theorem aHS (hv:Nat):aSx hv:=by
 intro S W b l i x hb hl hi;obtain⟨q,c,rfl,_⟩:=hb.shape;obtain⟨w2,eh⟩:∃w2,(W.alloc (.cells #[.int .i64 (l.length:Int),.int .i64 (hv:Int),.slice none 0 0,.slice q l.length c] 125)).alloc (.cells (aL x) 37)=w2:=⟨_,rfl⟩
 obtain⟨ah,fl,jh,ed⟩:=fL eh;have aq:=iH ah;have rm:w2.cell? ⟨W.heap.size,2,none⟩=some (.slice none 0 0):=aG fl rfl;have du:Hid (w2.drew.cell? ⟨W.heap.size,3,none⟩=some (.slice q l.length c)/\w2.drew.heap[W.heap.size+1]? =some (.cells (aL x) 37 (0,0))):=⟨aG (W:=w2) fl rfl,jh⟩
 have ev:=hb.cut.weak (S':=fun _=>True) (fun _ _=>trivial);obtain⟨a1,c1,dr,bu⟩:=aKX 123 aNE aFn ev (hi:=i) hi;obtain⟨a2,c2,xq,Gl⟩:=aD4 123 aNE aFn ev (lo:=i) hi;rw[zS xI]at dr;rw[uE xI]at xq;have bd:Hid (bY (fun _=>True) W 4 (.slice a1 i c1) (ivV (l.take i)) (l.take i).length):=by
  show bY _ _ _ _ _ _;rwa[show(l.take i).length=i by rw[bQ];omega]
 have yj:Hid (bY (fun _=>True) W 4 (.slice a2 (l.length-i) c2) (ivV (l.drop i)) (l.drop i).length):=by
  show bY _ _ _ _ _ _;rwa[show(l.drop i).length=l.length-i by rw[cG]]
 have HL:=iH hl;have xx:=aCv;clear hb hl hi ah fl jh ed ev dr xq;go_enter Tryz.func243,Tryz.ntmps243;go_upto_region 1 with fail
 clear eh;go_upto_region 2 with fail
 refine bO (S:=fun V=>V.cell? ⟨W.heap.size,3,none⟩=some (.slice q l.length c)/\V.heap[W.heap.size+1]? =some (.cells (aL x) 37 (0,0))) [12] uAu uDz (fun ab=> ?_);refine tkA 0 11 (h:=?_);refine tkA 1 12 (h:=?_);(try simp only[pq]);refine tkA 2 13 (h:=?_);refine tkA 3 14 (h:=?_);(try simp only[pq]);refine tyA 4 15 (hy:=aJ uAz 37 _ rfl (W.heap.size+1) rfl (aL x) 37 (0,0) _ (fun w hw=>hw.2) Tryz.underlying37 rfl aF) (h:=?_);refine tkA 6 17 (h:=?_);(try simp only[pq]);refine tkA 7 18 (h:=?_);refine tkA 8 19 (h:=?_);(try simp only[pq]);refine tkA 9 20 (h:=?_);(try simp only[pq]);refine tkO 5 (some 16) (h:=fun K hK=> ?_);refine aIx 123 37 _ rfl (aL x) 4 (.agg (aL gO)) rfl rfl uAv uAv Tryz.underlying123 uAu ?_;intro w3 h3 au gi;have gb:=iH (show _/\_ from⟨((au).cell (p:=⟨W.heap.size,3,none⟩) (aO _ _ du.out.1)).trans du.out.1,kW au du.out.2⟩);have Hy:Hid (bY (fun _=>True) w3 4 (.slice (some ⟨w2.drew.heap.size,0,none⟩) 1 1) (ivV [x]) 1):=⟨_,1,rfl,aA _,rfl,.inr ⟨_,0,rfl,trivial,by omega,fun j u hu=>by rw[eA];exact aG h3 (by rw[<-Array.getElem?_toList];exact hu)⟩⟩
 have av:Hid (Below W.heap.size W w3):=aq.out.trans ((aY w2|>.trans au).mono aq.out.size);clear au h3 gi;(try dsimp only);refine hK.out _ _ uDz (fun ab=> ?_);clear hK K;(try simp only[pq]);refine tkO 10 (some 21) (h:=fun K hK=> ?_);go_simp;have bh:=Below.newly' w3 (.cells #[.slice a1 i c1,.slice (some ⟨w2.drew.heap.size,0,none⟩) 1 1,.slice a2 (l.length-i) c2] 123);have mv:=iH (show _/\_ from⟨((bh).cell (p:=⟨W.heap.size,3,none⟩) (aO _ _ gb.out.1)).trans gb.out.1,kW bh gb.out.2⟩);clear bh;(try dsimp only);refine hK.out _ _ uDz (fun ab=> ?_);clear hK K;(try simp only[pq]);refine tkO 11 (some 22) (h:=fun K hK=> ?_);go_simp;go_at_call 152;refine(aCH (S:=fun _=>True) w3 [(.slice a1 i c1,l.take i),(.slice (some ⟨w2.drew.heap.size,0,none⟩) 1 1,[x]),(.slice a2 (l.length-i) c2,l.drop i)] ?_ (qY l i x) (by simp[fB,qY]) (by rw[aCM];have:=HL.out;omega) uAy).mono ?_
 ·intro y hy
  simp only[bL,gL,uS]at hy;rcases hy with rfl|rfl|rfl
  ·exact bd.out.later av.out
  ·exact Hy.out
  ·exact yj.out.later av.out
 rintro e w5 ⟨v5,rfl,kn,qj,nf,yk,ay⟩;have xf:=iH (show _/\_ from⟨((ay).cell (p:=⟨W.heap.size,3,none⟩) (aO _ _ gb.out.1)).trans gb.out.1,kW ay gb.out.2⟩);have E3:=iH qj;have By:=iH nf;have Xp:=iH yk;have bp:=iH (tW av.out ay);clear ay qj nf yk;(try dsimp only);refine hK.out _ _ uDz (fun ab=> ?_);clear hK K;(try simp only[pq]);refine tkU 12 (some 6) (h:=fun K hK=> ?_);go_simp;refine hK.out _ _ ?_;clear hK K;(try simp only[pq]);refine bJ uAu ?_ _;go_wp2_with fail
 go_ret;refine⟨_,rfl,kn,E3.out.weak fun g hg=>aI av.out.size hg,By.out,?_,bp.out⟩;have hf:=Xp.out;rwa[aCM]at hf
theorem aMw (h:Nat) (ih:aBD h):aBD (h+1):=by
 intro S W p i x m hp hi hN Un hm;obtain⟨w2,eh⟩:∃w2,(W.alloc (.cells (fY (h+1) p).toArray 125)).alloc (.cells (aL x) 37)=w2:=⟨_,rfl⟩
 obtain⟨ah,fl,jh,ed⟩:=fL eh;have j6:=iH jh;have aq:=iH ah;have HX2:=iH fl;have HS2:=iH ed;obtain⟨Bp,gd,ph,ks,hh,oe,hl,gv⟩:=hp;obtain⟨n,hn⟩:∃n,n=p.k:=⟨_,rfl⟩
 rw[<-hn]at gd ph hh oe hm;have Cs:=iH (aJ7 w2 h n i p ks (hh.later ah) oe gd ph uNx uNx);have Jr:=iH hh.cut;obtain⟨g,c,aj,fr,el,jq,hS,hg,ep⟩:=hh.pos gd;rw[el]at Jr;have rm:w2.cell? ⟨W.heap.size,2,none⟩=some (.slice (some ⟨g,0,none⟩) n c):=by rw[<-el];exact aG fl rfl
 have nc:Hid (∀k (hk:k<ks.length),w2.rangeAt g (k*4) (fY h ks[k])):=fun k hk=>jG (qZ (h:=h) hg ep hk) ah
 have HP:=iH (And.intro gd (And.intro ph (And.intro oe (And.intro hl (And.intro hi (And.intro Un hm))))));have ar:=iH gv;have nr:=iH hN;have xx:=fun w=>yG ⟨g,0,none⟩ n c w
 have x6:(n:Int)<=16:=by omega
 clear ah fl jh ed Bp gd ph hh oe hl gv hn el jq hS hg ep hi hN Un hm;go_enter Tryz.func243,Tryz.ntmps243;go_upto_region 1 with fail
 clear eh;go_upto_region 4 with(first
  |(refine aW rfl 125 _ rfl W.heap.size rfl 125 _ _ _ HX2.out Tryz.underlying125 rfl cV ?_)
  |(go_at_call 270;refine Cs.out.mono ?_;rintro e w3 ⟨k,r,rfl,Jw,au⟩;have Ct:=iH Jw;have Cu:=iH au;clear Jw au))
 obtain⟨ei,Jy,bu,Gl⟩:=Ct.out;have gj:=HP.out;have au:Below w2.heap.size w2 w3.drew:=Cu.out.trans ((aY w3).mono Cu.out.size);have gb:Hid (w3.drew.cell? ⟨W.heap.size,2,none⟩=some (.slice (some ⟨g,0,none⟩) n c)/\w3.drew.rangeAt g (k*4) (fY h ks[k])/\w3.drew.heap[W.heap.size+1]? =some (.cells (aL x) 37 (0,0))):=
  ⟨(au.cell (p:=⟨W.heap.size,2,none⟩) (aO _ _ rm)).trans rm,jG (nc.out k ei) au,(au.block _ uBv).trans j6.out⟩
 have av:=iH (tW aq.out au);have Q3:Hid (W.heap.size<=w3.drew.heap.size):=av.out.size;have E5:ks[k].l.length<=p.l.length:=by
  have h1:=aU List.length (nW ei);rw[aB,aB,<-gj.2.2.2.1]at h1;omega
 have Ak:=iH (ih (fun g=>S g/\g<W.heap.size) w3.drew ks[k] r x 8 ((ar.out _ (aX ei)).2.old.later av.out) bu uWz (aA _) (ar.out _ (aX ei)).1);obtain⟨k1,gd⟩:∃k1,k1=k+1:=⟨_,rfl⟩
 have yb:Hid (qY p.l i x=eS (ks.take k)++qY ks[k].l r x++eS (ks.drop k1)):=by
  show _=_;rw[gj.2.2.2.1,Jy,nW ei,gd];exact aP7 bu
 obtain⟨a1,c1,dr,BZ⟩:=aKX 122 aNL aFr Jr.out (hi:=k) hO;have jn:IntKind.i64.wrap ((k:Int)+1)=(k1:Int):=by rw[jM];omega
 obtain⟨a2,c2,xq,CA⟩:=aD4 122 aNL aFr Jr.out (lo:=k1) hO;rw[zS (sO h)]at dr;rw[uE (sO h)]at xq;have bd:Hid (bY S W 4 (.slice a1 k c1) (en (fY h) (ks.take k)) (ks.take k).length):=by
  show bY _ _ _ _ _ _;rwa[show(ks.take k).length=k by rw[bQ];omega]
 have yj:Hid (bY S W 4 (.slice a2 (n-k1) c2) (en (fY h) (ks.drop k1)) (ks.drop k1).length):=by
  show bY _ _ _ _ _ _;rwa[show(ks.drop k1).length=n-k1 by rw[cG];omega]
 have x7:Hid (∀k4:List Kid,(ks.take k++(k4++ks.drop k1)).length=n-1+k4.length):=by
  intro k4;rw[aB,aB,bQ,cG];omega
 obtain⟨y,hy⟩:∃y,y=ks[k]:=⟨_,rfl⟩
 rw[<-hy]at gb Ak yb;have T4:(k:Int)<(n:Int):=by omega
 have Q4:k<n:=by omega
 clear ei Jy bu Gl gj au E5 hy rm dr xq gd;refine bO (S:=fun V=>V.cell? ⟨W.heap.size,2,none⟩=some (.slice (some ⟨g,0,none⟩) n c)/\V.rangeAt g (k*4) (fY h y)/\V.heap[W.heap.size+1]? =some (.cells (aL x) 37 (0,0))) [19] uAu uEu (fun ab=> ?_);refine tkA 0 29 (h:=?_);refine tkA 1 30 (h:=?_);(try simp only[pq]);refine tkA 2 31 (h:=?_);refine tkA 3 32 (h:=?_);(try simp only[pq]);refine tkA 4 33 (h:=?_);refine tkA 5 34 (h:=?_);(try simp only[pq]);refine tkA 6 35 (h:=?_);refine tkA 7 36 (h:=?_);(try simp only[pq]);refine tyA 8 37 (hy:=aLi uAz 125 _ rfl g (k*4) rfl (fY h y) _ (fun w hw=>hw.2.1) Tryz.underlying125 rfl cV) (h:=?_);refine tkA 9 38 (h:=?_);(try simp only[pq]);refine tyA 10 39 (hy:=aJ uAz 37 _ rfl (W.heap.size+1) rfl (aL x) 37 (0,0) _ (fun w hw=>hw.2.2) Tryz.underlying37 rfl aF) (h:=?_);refine tkA 12 41 (h:=?_);(try simp only[pq]);refine tkA 13 42 (h:=?_);refine tkA 14 43 (h:=?_);(try simp only[pq]);refine tkA 15 44 (h:=?_);refine tkA 16 45 (h:=?_);(try simp only[pq]);refine tkO 11 (some 40) (h:=fun K hK=> ?_);go_simp;go_at_call 243;refine Ak.out.mono ?_;rintro e w4 ⟨v4,rfl,k4,sj,tg,Ha,Lr,bh⟩;obtain⟨a4,n4,rfl,_⟩:=sj.1.shape;have mv:=iH (show _/\_/\_ from⟨((bh).cell (p:=⟨W.heap.size,2,none⟩) (aO _ _ gb.out.1)).trans gb.out.1,jG gb.out.2.1 bh,kW bh gb.out.2.2⟩);have bg:=iH (tW av.out bh);have Jz:=iH sj;have vj:=iH tg;have pb:=iH (And.intro Ha Lr);clear bh sj tg Ha Lr;(try dsimp only);refine hK.out _ _ uEu (fun ab=> ?_);clear hK K;(try simp only[pq]);refine tkO 17 (some 46) (h:=fun K hK=> ?_);go_simp;have ay:=Below.newly' w4 (.cells #[.slice a1 k c1,.slice a4 k4.length n4,.slice a2 (n-k1) c2] 122)
 have xf:=iH (show _/\_/\_ from⟨((ay).cell (p:=⟨W.heap.size,2,none⟩) (aO _ _ mv.out.1)).trans mv.out.1,jG mv.out.2.1 ay,kW ay mv.out.2.2⟩);clear ay;(try dsimp only);refine hK.out _ _ uEu (fun ab=> ?_);clear hK K;(try simp only[pq]);refine tkO 18 (some 47) (h:=fun K hK=> ?_);go_simp;go_at_call 174;refine(aJu (S:=fun g=>S g\/W.heap.size<=g) w4 h [(.slice a1 k c1,ks.take k),(.slice a4 k4.length n4,k4),(.slice a2 (n-k1) c2,ks.drop k1)] ?_ (ks.take k++(k4++ks.drop k1)) (by simp[fB]) ?_ ?_ uAy).mono ?_
 ·intro z hz
  have om:=Q3.out;simp only[bL,gL,uS]at hz;rcases hz with rfl|rfl|rfl
  ·exact((bd.out.later bg.out).weak fun g hg=>.inl hg)
  ·exact Jz.out.1.weak fun g hg=>hg.imp (fun h=>h.1) fun h=>aI om h
  ·exact((yj.out.later bg.out).weak fun g hg=>.inl hg)
 ·intro z hz
  have om:=Q3.out;rcases dL.1 hz with hz|hz
  ·exact⟨(ar.out z (oX hz)).1,((ar.out z (oX hz)).2.later bg.out).weak fun g hg=>.inl hg⟩
  ·rcases dL.1 hz with hz|hz
   ·exact⟨(pb.out.2 z hz).1,(Jz.out.2 z hz).weak fun g hg=>hg.imp (fun h=>h.1) fun h=>aI om h⟩
   ·exact⟨(ar.out z (uV hz)).1,((ar.out z (uV hz)).2.later bg.out).weak fun g hg=>.inl hg⟩
 ·rw[lU,lU,vj.out,<-bG,<-yb.out,aCM]
  have:=nr.out;omega
 rintro e w6 ⟨v6,rfl,kn,CB,Uo,CC,nt⟩;have np:=iH (show _/\_/\_ from⟨((nt).cell (p:=⟨W.heap.size,2,none⟩) (aO _ _ mv.out.1)).trans mv.out.1,jG mv.out.2.1 nt,kW nt mv.out.2.2⟩);have Up:=iH CB;have Gm:=iH Uo;have IR:=iH CC;have ek:=iH (tW bg.out nt);clear nt CB Uo CC;(try dsimp only);refine hK.out _ _ uEu (fun ab=> ?_);clear hK K;(try simp only[pq]);refine tkU 19 (some 6) (h:=fun K hK=> ?_);go_simp;refine hK.out _ _ ?_;clear hK K;(try simp only[pq]);refine bJ uAu ?_ _;go_wp2_with fail
 go_ret;obtain⟨k1,k2,k3,MV,k5,k6,k7⟩:=HP.out;have Ha:=pb.out.1;have hf:=IR.out;rw[x7.out k4]at hf;have he:=aHZ hf hO hO k6 hO;refine⟨_,rfl,kn,Up.out.weak fun g hg=>hg.elim id fun h=>.inr (aI bg.out.size h),?_,he.1,he.2,ek.out⟩;rw[Gm.out,lU,lU,vj.out,yb.out,bG]
theorem aP4:aBD 0:=by
 intro S W p i x m hp hi hN Un hm;obtain⟨el,Js,qb,vh,Dn⟩:=hp;rw[Js]at Dn;have h:=aHS 1 S W p.b p.l i x Dn hO hi;have e:((fY 0 p).toArray:Array Value)=#[.int .i64 (p.l.length:Int),.int .i64 ((1:Nat):Int),.slice none 0 0,p.b]:=by simp[fY,el]
 rw[e];refine h.mono ?_;rintro e W' ⟨v,rfl,ks,h1,h2,h3,h4⟩;have he:=aHZ h3 hO hO Un hO;exact⟨v,rfl,ks,h1.weak fun g hg=>.inr hg,h2,he.1,he.2,h4⟩
theorem aEf:∀h,aBD h
 |0=>aP4
 |h+1=>aMw h (aEf h)
end Go.Proofs.YthmfgidbcghnfaaGreatDoor
