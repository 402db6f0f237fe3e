import Derived.Test.YthmfgidbcghnfaaGreatDoorQ0
import Derived.Test.YthmfgidbcghnfaaGreatDoorQ16
set_option maxRecDepth 1000000
set_option maxHeartbeats 8000000
set_option linter.unusedSimpArgs false
namespace Go.Proofs.YthmfgidbcghnfaaGreatDoor
open Go.RowKit
theorem aSq {α:Type} {R:Rg α} {i:Nat} (hi:i<32) {x:α} (h:R i=some x):(i,x)∈iZ R:=fK (aL9 R hi h)
theorem aQh {α:Type} {R:Rg α} {i:Nat} (hi:i<32) {x:α} (h:R i=some x) (ho:∀j,j<32->j≠i->R j=none):iZ R=[(i,x)]:=by
 unfold iZ;rw[aC9 hi,lS,lS];have e1:(List.range i).filterMap (fun j=>(R j).map fun x=>(j,x))=[]:=by
  rw[List.filterMap_eq_nil_iff];intro j hj;rw[jZ]at hj;rw[ho j hO hO];rfl
 have e2:((List.range (31-i)).map (i+1+ ·)).filterMap (fun j=>(R j).map fun x=>(j,x))=[]:=by
  rw[List.filterMap_eq_nil_iff];intro j hj;rw[dH]at hj;obtain⟨a,ha,rfl⟩:=hj;rw[jZ]at ha;rw[ho _ hO hO];rfl
 rw[e1,e2];simp[h]
section
variable {hs : ByteArray → Nat} {S : Nat → Prop} {w : World} {f : Nat} {L : List Ent} {R : Rg Pl} {lv : Nat}
theorem aR3 {e:Ent} (h:∀i,i<32->pZ hs S w (dI hs S f w) (chE hs lv i [e]) (R i)):∃b,jT hs S w b e/\iZ R=[(jD (hs e.1) lv,(some b,none))]:=by
 have hi:=sZ (hs e.1) lv;have h1:=h _ hi;rw[show chE hs lv (jD (hs e.1) lv) [e]=[e] by simp[chE]]at h1;obtain⟨b,h2,h3⟩:=h1;refine⟨b,h3,aQh hi h2 fun j hj bn=> ?_⟩;have h4:=h j hj;rw[show chE hs lv j [e]=[] by simp[chE,kX bn]]at h4;exact h4
theorem aO2 {a b:Ent} {M:List Ent} (hL:L=a::b::M) (h:∀i,i<32->pZ hs S w (dI hs S f w) (chE hs lv i L) (R i)) (h1:gB R 32=1):(oZ R).2.1.1=none:=by
 have hl:(iZ R).length=1:=by rw[rD,h1]
 obtain⟨p,hp⟩:=List.length_eq_one_iff.1 hl;have hm:=aID (R:=R) (p:=p) (by rw[hp];exact bV.2 rfl);have Qr:∀j,j<32->(R j).isSome=true->j=p.1:=fun j hj hs=>by
  obtain⟨x,hx⟩:=qH.1 hs;have:=aSq hj hx;rw[hp,bV]at this;rw[<-this]
 have hall:chE hs lv p.1 L=L:=by
  unfold chE;rw[aGB];intro e he;have hj:=sZ (hs e.1) lv;have hpl:=h _ hj;have bn:e∈chE hs lv (jD (hs e.1) lv) L:=aTi.2 ⟨he,rfl⟩;have Qs:(R (jD (hs e.1) lv)).isSome=true:=by
   generalize chE hs lv (jD (hs e.1) lv) L=K at hpl bn
   match K,hpl,bn with
   |[],_,bn=>cases bn
   |[x],hpl,_=>obtain⟨b,h2,_⟩:=hpl;rw[h2];rfl
   |x::y::r,hpl,_=>obtain⟨b,c,fr,h2,_⟩:=hpl;rw[h2];rfl
  rw[eI];exact Qr _ hj Qs
 have h2:=h p.1 hm.1;rw[hall,hL]at h2;obtain⟨g,c,fr,h3,_⟩:=h2;rw[hm.2]at h3;unfold oZ;rw[hp];simp only;rw[aH h3]
end
def aGq (hs:ByteArray->Nat) (f:Nat):Prop:=∀(S:Nat->Prop) (w:World) (L:List Ent) (c:Array Value),dI hs S f w L c->L≠[]->iF w->
  Calls Tryz.prog 223 #[.agg c] w fun r w'=>∃p,r=.returned (.agg (plc p))/\pZ hs (fun g=>S g\/w.heap.size<=g) w' (dI hs (fun g=>S g\/w.heap.size<=g) f w') L (some p)/\Below w.heap.size w w'
theorem aCj {hs:ByteArray->Nat} {S:Nat->Prop} {w w':World} {f:Nat} {a b:Ent} {M:List Ent} {c:Array Value} {fr:Nat×Nat} (h:dI hs S f w (a::b::M) c) (hb:Below w.heap.size w w') (hx:w'.heap[w.heap.size]? =some (.cells c 134 fr)):
  pZ hs (fun g=>S g\/w.heap.size<=g) w' (dI hs (fun g=>S g\/w.heap.size<=g) f w') (a::b::M) (some (none,some w.heap.size)):=
 ⟨_,c,fr,rfl,.inr (aA _),hx,(h.later hb).weak fun _ h=>.inl h⟩
theorem aJy (hs:ByteArray->Nat):aGq hs 0:=by
 intro S w L c h bn hT;have hh:=h;obtain⟨v,qs,rfl,h2,hq,h4⟩:=h;obtain⟨hl,h2⟩:=h2;rcases h2 with⟨h0,_⟩|⟨h0,g,cp,aj,rfl,Jm,hS,wo,hc⟩
 ·exact absurd (aQ h0) bn
 ·match L,bn,hh,hq,h0 with
  |[e],_,hh,hq,_=>
   obtain⟨q,rfl⟩:∃q,qs=[q]:=List.length_eq_one_iff.1 (by have:=aU List.length hq;simpa using this.symm)
   obtain rfl:e=q.2:=by simpa using hq
   have HE:=iH (h4 q (bV.2 rfl));have gr:w.cell? ⟨g,0,none⟩=some (pv (some q.1)):=aG wo (hc 0 _ rfl);rw[show[q.2].length=1 from rfl];obtain⟨w1,ag⟩:∃w1,(w.alloc (.cells #[.int .u32 0,.slice none 0 0,.slice (some ⟨g,0,none⟩) 1 cp] 134)).alloc (.cells #[.pointer none,.pointer none] 258)=w1:=⟨_,rfl⟩
   obtain⟨af,ai,aw,al⟩:=lA ag;have HX1:=iH ai;have bl:=iH aw;have HB1:=iH af;have HS1:=iH al;have rm:w1.cell? ⟨w.heap.size,2,none⟩=some (.slice (some ⟨g,0,none⟩) 1 cp):=aG ai rfl;have dr:w1.cell? ⟨g,0,none⟩=some (.pointer (some ⟨q.1,0,none⟩)):=(af.cell (p:=⟨g,0,none⟩) (gZ wo)).trans gr;clear hh hq ai aw af al h4 hl hc wo gr;go_enter Tryz.func223,Tryz.ntmps223;go_upto_region 1 with fail
   clear ag;go_wp2_with (first
    |(refine aV rfl 258 _ _ rfl (w.heap.size+1) (plc (some q.1,none)) rfl rfl 258 _ bl.out dN rfl (gW (some q.1,none)) ?_;intro w4 h4 k4))
   exact aN (bE rfl _ _ (w.heap.size+1) 258 _ (0,0) _ rfl h4 Tryz.underlying258 rfl dN) rfl ⟨(some q.1,none),rfl,⟨q.1,rfl,(HE.out.later (HB1.out.trans (k4.below hO))).weak fun _ h=>.inl h⟩,HB1.out.trans (k4.below hO)⟩
  |a::b::M,_,hh,_,_=>
   obtain⟨N,hN⟩:∃N,N=(a::b::M).length:=⟨_,rfl⟩
   have Lj:((N:Int)==1)=false:=aE.2 (by rw[hN,aD,aD];omega);have HH:=iH hh;rw[<-hN]at HH ⊢;obtain⟨w1,ag⟩:∃w1,(w.alloc (.cells #[.int .u32 0,.slice none 0 0,.slice (some ⟨g,0,none⟩) N cp] 134)).alloc (.cells #[.pointer none,.pointer none] 258)=w1:=⟨_,rfl⟩
   obtain⟨af,ai,aw,al⟩:=lA ag;have HX1:=iH ai;have bl:=iH aw;have HB1:=iH af;have HS1:=iH al;have rm:w1.cell? ⟨w.heap.size,2,none⟩=some (.slice (some ⟨g,0,none⟩) N cp):=aG ai rfl;have HF:=iH (fun W (hb:Below w.heap.size w W)=>aHi W noG _ (AtR.zero (fun _=>True) W) (hT.below hb));have Gj:oZ (noG:Rg Pl)=(0,(none,none),false):=rfl;rw[Gj]at HF;have nr:=iH (fun W=>aOc W noG _ (AtR.zero (fun _=>True) W));rw[zY]at nr;clear hh ai aw af al h4 hl hc wo hq hN Jm h0 Gj;go_enter Tryz.func223,Tryz.ntmps223;go_upto_region 1 with fail
   clear ag;go_wp2_with (first
    |(refine cO rfl 131 _ rfl w.heap.size 0 rfl [.int .u32 0,.slice none 0 0] _ (kF HX1.out) Tryz.underlying131 rfl iY ?_)
    |(refine cO rfl 131 _ rfl w.heap.size 0 rfl [.int .u32 0,.slice none 0 0] _ (kF bw.out) Tryz.underlying131 rfl iY ?_)
    |(go_at_call 261;refine(HF.out _ HB1.out).mono ?_;rintro r w2 ⟨rfl,hb⟩;have HX2:=iH ((hb.block _ uBu).trans HX1.out);have bo:=iH ((hb.block _ uBu).trans bl.out);have aq:=iH (tW HB1.out hb);have HS2:Hid (w.heap.size+2<=w2.heap.size):=uEx;clear hb)
    |(refine aV rfl 258 _ _ rfl w2.heap.size (plc (none,none)) rfl rfl 258 (plc (none,none)) (aC w2 _) dN rfl (gW _) ?_;intro w3 h3 k3;have yd:=iH h3;have kh:Below w2.heap.size w2 w3:=(Below.newly' w2 _).trans (k3.below (aA _));have be:=iH ((kh.block _ uBv).trans HX2.out);have dp:=iH ((kh.block _ uBv).trans bo.out);have av:=iH (tW aq.out kh);have cd:Hid (w2.heap.size<w3.heap.size):=(gZ h3);have bw:=be;obtain⟨X,hX⟩:∃X,X=w2.heap.size:=⟨_,rfl⟩;rw[<-hX]at yd cd ⊢;have jr:Hid (w.heap.size+2<=X):=uHy;clear h3 k3 kh hX)
    |(go_at_call 262;refine(nr.out _).mono ?_;rintro r w5 ⟨rfl,hb⟩;have rp:=iH ((hb.block _ cd.out).trans yd.out);have fg:=iH ((hb.block _ uCz).trans be.out);have gk:=iH ((hb.block _ uCz).trans dp.out);have bp:=iH (tW av.out hb);have Xd:w5.cell? ⟨X,0,none⟩=some (.pointer none):=aG rp.out rfl;clear hb)
    |(refine aW uAz 258 _ rfl X rfl 258 _ _ _ rp.out Tryz.underlying258 rfl dN ?_)
    |(refine aV rfl 258 _ _ rfl (w.heap.size+1) (plc (none,some w.heap.size)) rfl rfl 258 _ gk.out dN rfl (gW (none,some w.heap.size)) ?_;intro w6 h6 k6))
   exact aN (bE rfl _ _ (w.heap.size+1) 258 _ (0,0) _ rfl h6 Tryz.underlying258 rfl dN) rfl ⟨(none,some w.heap.size),rfl,aCj HH.out (bp.out.trans (k6.below hO)) (k6.other fg.out hO),bp.out.trans (k6.below hO)⟩
theorem aJx (hs:ByteArray->Nat) (f:Nat):aGq hs (f+1):=by
 intro S w L c h bn hT;have hh:=h;obtain⟨b0,v0,R,rfl,dj,hpl⟩:=h.row;obtain⟨bb,rfl⟩:∃bb:Nat,b0=.int .u32 (bb:Int):=by obtain⟨v',e,_⟩:=dj;simp only[gU,dA]at e;exact⟨_,e.1⟩
 obtain⟨va,vn,vc,rfl⟩:∃a n c,v0=.slice a n c:=by obtain⟨a,n,e⟩:=dj.shape;simp only[gU,dA]at e;exact⟨_,_,_,e.2.1⟩
 have HF:=iH (fun W (hb:Below w.heap.size w W)=>aHi W R _ (dj.later hb) (hT.below hb));have nr:=iH (fun W (hb:Below w.heap.size w W)=>aOc W R _ (dj.later hb));obtain⟨w1,ag⟩:∃w1,(w.alloc (.cells #[.int .u32 (bb:Int),.slice va vn vc,.slice none 0 0] 134)).alloc (.cells #[.pointer none,.pointer none] 258)=w1:=⟨_,rfl⟩
 obtain⟨af,ai,aw,al⟩:=lA ag;have HX1:=iH ai;have bl:=iH aw;have HB1:=iH af;have HS1:=iH al;have rm:w1.cell? ⟨w.heap.size,2,none⟩=some (.slice none 0 0):=aG ai rfl
 match L,bn,hh,hpl with
 |[e],_,hh,hpl=>
  obtain⟨b,he,hall⟩:=aR3 hpl;have Gj:oZ R=((jD (hs e.1) ((12-f:Nat):Int):Int),(some b,none),true):=by unfold oZ;rw[hall]
  have Eo:gB R 32=1:=by rw[<-rD,hall];rfl
  rw[Gj]at HF;rw[Eo]at nr;have HE:=iH he;clear hh hpl ai aw af al dj hall Gj Eo he h;go_enter Tryz.func223,Tryz.ntmps223;go_upto_region 1 with fail
  clear ag;go_wp2_with (first
   |(refine cO rfl 131 _ rfl w.heap.size 0 rfl [.int .u32 (bb:Int),.slice va vn vc] _ (kF HX1.out) Tryz.underlying131 rfl iY ?_)
   |(refine cO rfl 131 _ rfl w.heap.size 0 rfl [.int .u32 (bb:Int),.slice va vn vc] _ (kF bw.out) Tryz.underlying131 rfl iY ?_)
   |(go_at_call 261;refine(HF.out _ HB1.out).mono ?_;rintro r w2 ⟨rfl,hb⟩;have HX2:=iH ((hb.block _ uBu).trans HX1.out);have bo:=iH ((hb.block _ uBu).trans bl.out);have aq:=iH (tW HB1.out hb);have HS2:Hid (w.heap.size+2<=w2.heap.size):=uEx;clear hb)
   |(refine aV rfl 258 _ _ rfl w2.heap.size (plc (some b,none)) rfl rfl 258 (plc (none,none)) (aC w2 _) dN rfl (gW _) ?_;intro w3 h3 k3;have yd:=iH h3;have kh:Below w2.heap.size w2 w3:=(Below.newly' w2 _).trans (k3.below (aA _));have be:=iH ((kh.block _ uBv).trans HX2.out);have dp:=iH ((kh.block _ uBv).trans bo.out);have av:=iH (tW aq.out kh);have cd:Hid (w2.heap.size<w3.heap.size):=(gZ h3);have bw:=be;obtain⟨X,hX⟩:∃X,X=w2.heap.size:=⟨_,rfl⟩;rw[<-hX]at yd cd ⊢;have jr:Hid (w.heap.size+2<=X):=uHy;clear h3 k3 kh hX)
   |(go_at_call 262;refine(nr.out _ (av.out)).mono ?_;rintro r w5 ⟨rfl,hb⟩;have rp:=iH ((hb.block _ cd.out).trans yd.out);have fg:=iH ((hb.block _ uCz).trans be.out);have gk:=iH ((hb.block _ uCz).trans dp.out);have bp:=iH (tW av.out hb);have Xd:w5.cell? ⟨X,0,none⟩=some (.pointer (some ⟨b,0,none⟩)):=aG rp.out rfl;clear hb)
   |(refine aW uAz 258 _ rfl X rfl 258 _ _ _ rp.out Tryz.underlying258 rfl dN ?_)
   |(refine aV rfl 258 _ _ rfl (w.heap.size+1) (plc (some b,none)) rfl rfl 258 _ gk.out dN rfl (gW (some b,none)) ?_;intro w6 h6 k6))
  exact aN (bE rfl _ _ (w.heap.size+1) 258 _ (0,0) _ rfl h6 Tryz.underlying258 rfl dN) rfl ⟨(some b,none),rfl,⟨b,rfl,(HE.out.later (bp.out.trans (k6.below hO))).weak fun _ h=>.inl h⟩,bp.out.trans (k6.below hO)⟩
 |x::y::M,_,hh,hpl=>
  have ur:=aO2 rfl hpl;have HH:=iH hh;obtain⟨⟨fi,⟨fo,fm⟩,fb⟩,Gj⟩:∃z,z=oZ R:=⟨_,rfl⟩
  rw[<-Gj]at HF ur;simp only at HF ur;obtain⟨n,hn⟩:∃n,n=gB R 32:=⟨_,rfl⟩
  rw[<-hn]at nr ur;clear hh hpl ai aw af al dj Gj hn h;by_cases h1:n=1
  obtain rfl:=ur h1
  subst h1;clear ur;focus go_enter Tryz.func223,Tryz.ntmps223;focus go_upto_region 1 with fail
  clear ag;focus go_wp2_with (first
   |(refine cO rfl 131 _ rfl w.heap.size 0 rfl [.int .u32 (bb:Int),.slice va vn vc] _ (kF HX1.out) Tryz.underlying131 rfl iY ?_)
   |(refine cO rfl 131 _ rfl w.heap.size 0 rfl [.int .u32 (bb:Int),.slice va vn vc] _ (kF bw.out) Tryz.underlying131 rfl iY ?_)
   |(go_at_call 261;refine(HF.out _ HB1.out).mono ?_;rintro r w2 ⟨rfl,hb⟩;have HX2:=iH ((hb.block _ uBu).trans HX1.out);have bo:=iH ((hb.block _ uBu).trans bl.out);have aq:=iH (tW HB1.out hb);have HS2:Hid (w.heap.size+2<=w2.heap.size):=uEx;clear hb)
   |(refine aV rfl 258 _ _ rfl w2.heap.size (plc (none,fm)) rfl rfl 258 (plc (none,none)) (aC w2 _) dN rfl (gW _) ?_;intro w3 h3 k3;have yd:=iH h3;have kh:Below w2.heap.size w2 w3:=(Below.newly' w2 _).trans (k3.below (aA _));have be:=iH ((kh.block _ uBv).trans HX2.out);have dp:=iH ((kh.block _ uBv).trans bo.out);have av:=iH (tW aq.out kh);have cd:Hid (w2.heap.size<w3.heap.size):=(gZ h3);have bw:=be;obtain⟨X,hX⟩:∃X,X=w2.heap.size:=⟨_,rfl⟩;rw[<-hX]at yd cd ⊢;have jr:Hid (w.heap.size+2<=X):=uHy;clear h3 k3 kh hX)
   |(go_at_call 262;refine(nr.out _ (av.out)).mono ?_;rintro r w5 ⟨rfl,hb⟩;have rp:=iH ((hb.block _ cd.out).trans yd.out);have fg:=iH ((hb.block _ uCz).trans be.out);have gk:=iH ((hb.block _ uCz).trans dp.out);have bp:=iH (tW av.out hb);have Xd:w5.cell? ⟨X,0,none⟩=some (.pointer none):=aG rp.out rfl;clear hb)
   |(refine aW uAz 258 _ rfl X rfl 258 _ _ _ rp.out Tryz.underlying258 rfl dN ?_)
   |(refine aV rfl 258 _ _ rfl (w.heap.size+1) (plc (none,some w.heap.size)) rfl rfl 258 _ gk.out dN rfl (gW (none,some w.heap.size)) ?_;intro w6 h6 k6))
  rotate_left
  have tf:((n:Int)==1)=false:=aE.2 hO
  clear ur h1;focus go_enter Tryz.func223,Tryz.ntmps223;focus go_upto_region 1 with fail
  clear ag;focus go_wp2_with (first
   |(refine cO rfl 131 _ rfl w.heap.size 0 rfl [.int .u32 (bb:Int),.slice va vn vc] _ (kF HX1.out) Tryz.underlying131 rfl iY ?_)
   |(refine cO rfl 131 _ rfl w.heap.size 0 rfl [.int .u32 (bb:Int),.slice va vn vc] _ (kF bw.out) Tryz.underlying131 rfl iY ?_)
   |(go_at_call 261;refine(HF.out _ HB1.out).mono ?_;rintro r w2 ⟨rfl,hb⟩;have HX2:=iH ((hb.block _ uBu).trans HX1.out);have bo:=iH ((hb.block _ uBu).trans bl.out);have aq:=iH (tW HB1.out hb);have HS2:Hid (w.heap.size+2<=w2.heap.size):=uEx;clear hb)
   |(refine aV rfl 258 _ _ rfl w2.heap.size (plc (fo,fm)) rfl rfl 258 (plc (none,none)) (aC w2 _) dN rfl (gW _) ?_;intro w3 h3 k3;have yd:=iH h3;have kh:Below w2.heap.size w2 w3:=(Below.newly' w2 _).trans (k3.below (aA _));have be:=iH ((kh.block _ uBv).trans HX2.out);have dp:=iH ((kh.block _ uBv).trans bo.out);have av:=iH (tW aq.out kh);have cd:Hid (w2.heap.size<w3.heap.size):=(gZ h3);have bw:=be;obtain⟨X,hX⟩:∃X,X=w2.heap.size:=⟨_,rfl⟩;rw[<-hX]at yd cd ⊢;have jr:Hid (w.heap.size+2<=X):=uHy;clear h3 k3 kh hX)
   |(go_at_call 262;refine(nr.out _ (av.out)).mono ?_;rintro r w5 ⟨rfl,hb⟩;have rp:=iH ((hb.block _ cd.out).trans yd.out);have fg:=iH ((hb.block _ uCz).trans be.out);have gk:=iH ((hb.block _ uCz).trans dp.out);have bp:=iH (tW av.out hb);have Xd:w5.cell? ⟨X,0,none⟩=some (pv fo):=aG rp.out rfl;clear hb)
   |(refine aW uAz 258 _ rfl X rfl 258 _ _ _ rp.out Tryz.underlying258 rfl dN ?_)
   |(refine aV rfl 258 _ _ rfl (w.heap.size+1) (plc (none,some w.heap.size)) rfl rfl 258 _ gk.out dN rfl (gW (none,some w.heap.size)) ?_;intro w6 h6 k6))
  all_goals
   exact aN (bE rfl _ _ (w.heap.size+1) 258 _ (0,0) _ rfl h6 Tryz.underlying258 rfl dN) rfl ⟨(none,some w.heap.size),rfl,aCj HH.out (bp.out.trans (k6.below hO)) (k6.other fg.out hO),bp.out.trans (k6.below hO)⟩
theorem aPd (hs:ByteArray->Nat):∀f,aGq hs f
 |0=>aJy hs
 |f+1=>aJx hs f
end Go.Proofs.YthmfgidbcghnfaaGreatDoor
namespace Go.Proofs.YthmfgidbcghnfaaGreatDoor
open Go.RowKit
theorem aG6 (w:World):(sizeOf (Tryz.prog.elem 132)).run Tryz.prog w=.ok 1 w:=by
 have e:Tryz.prog.elem 132=211:=by kernel_rfl
 rw[e];obtain⟨i,hi,_,h1,_⟩:=dO sU;simp[sizeOf,typeInfo,hi,h1]
theorem aCX:Tryz.prog.underlying 132=some (.slice (Tryz.prog.elem 132)):=by kernel_rfl
def aDk (hs:ByteArray->Nat) (f:Nat):Prop:=∀(S:Nat->Prop) (w:World) (L:List Ent) (c:Array Value) (b:Nat) (k:ByteArray) (x:Cel),dI hs S f w L c->jX L->L.length<=50000->jT hs S w b (k,x)->iF w->
  Calls Tryz.prog 155 #[.agg c,.int .i64 ((13-f:Nat):Int),pv (some b)] w fun r w'=>∃c',r=.returned (.agg c')/\dI hs (fun g=>S g\/w.heap.size<=g) f w' (nD L k x) c'/\Below w.heap.size w w'
def aLd (hs:ByteArray->Nat) (f:Nat):Prop:=∀(S:Nat->Prop) (w:World) (L:List Ent) (p:Option Pl) (b:Nat) (k:ByteArray) (x:Cel),pZ hs S w (dI hs S f w) L p->jX L->L.length<=50000->jT hs S w b (k,x)->iF w->
  Calls Tryz.prog 183 #[.agg (plc (p.getD (none,none))),.int .i64 ((13-f:Nat):Int),pv (some b)] w fun r w'=>∃p',r=.returned (.agg (plc p'))/\pZ hs (fun g=>S g\/w.heap.size<=g) w' (dI hs (fun g=>S g\/w.heap.size<=g) f w') (nD L k x) (some p')/\Below w.heap.size w w'
theorem aJG {W:World} {g b:Nat} (h:W.heap[g]? =some (.cells #[.pointer (some ⟨b,0,none⟩)] 211 (0,0))):bY (fun _=>True) W 1 (.slice (some ⟨g,0,none⟩) 1 1) (en enE [b]) 1:=
 ⟨_,1,rfl,aA _,rfl,.inr ⟨g,0,rfl,trivial,(gZ h),fun j u hu=>by
  rw[eA];refine aG h ?_;simpa[en,enE,pv]using hu⟩⟩
theorem aEy {hs:ByteArray->Nat} {S:Nat->Prop} {w w':World} {v:Value} {qs:List (Nat×Ent)} (h0:0<qs.length) (h:w'.ownsRow w.heap.size 211 1 v qs.length (en enE (qs.map (·.1)))) (he:∀q∈qs,jT hs S w' q.1 q.2):
  dI hs (fun g=>S g\/w.heap.size<=g) 0 w' (qs.map (·.2)) #[.int .u32 0,.slice none 0 0,v]:=by
 refine⟨v,qs,rfl,?_,rfl,fun q hq=>(he q hq).weak fun _ h=>.inl h⟩;have hz:=xW h h0;rw[aM];obtain⟨h1,h2⟩:=hz;refine⟨h1,h2.imp_right ?_⟩;rintro⟨a1,g,c,aj,a2,a3,a4,a5,a6⟩;exact⟨a1,g,c,aj,a2,a3,.inr a4,a5,a6⟩
theorem aIs (w:World) (B:Nat) (v1 v2 v3:Value) (p1 p2 p3:List Nat) (h1:w.cell? ⟨B,0,none⟩=some v1) (h2:w.cell? ⟨B,1,none⟩=some v2) (h3:w.cell? ⟨B,2,none⟩=some v3)
  (c1:bY (fun _=>True) w 1 v1 (en enE p1) p1.length) (c2:bY (fun _=>True) w 1 v2 (en enE p2) p2.length) (c3:bY (fun _=>True) w 1 v3 (en enE p3) p3.length) (hN:(p1++(p2++p3)).length<=100000) (h0:0<(p1++(p2++p3)).length):
  Calls Tryz.prog 181 #[.slice (some ⟨B,0,none⟩) 3 3] w fun e w'=>∃g c,e=.returned (.slice (some ⟨g,0,none⟩) (p1++(p2++p3)).length c)/\w'.ownsRow w.heap.size 211 1 (.slice (some ⟨g,0,none⟩) (p1++(p2++p3)).length c) (p1++(p2++p3)).length (en enE (p1++(p2++p3)))/\Below w.heap.size w w':=by
 have e:fB [(v1,p1),(v2,p2),(v3,p3)] 3=p1++(p2++p3):=by simp[fB]
 have h:=cc_ep aKU w (S:=fun _=>True) B [(v1,p1),(v2,p2),(v3,p3)] (fun k hk=>by
  match k,hk with
  |0,_=>exact h1
  |1,_=>exact h2
  |2,_=>exact h3) (fun q hq=>by
  simp only[bL,gL,uS]at hq;rcases hq with rfl|rfl|rfl
  ·exact c1
  ·exact c2
  ·exact c3) (by show(fB _ 3).length<=_;rw[e];exact hN) uAy
 refine h.mono ?_;rintro r w' ⟨v,rfl,ho,hb⟩;change World.ownsRow _ _ _ _ v (fB _ 3).length (en enE (fB _ 3))at ho
 rw[e]at ho;have Qt:=ho;obtain⟨_,⟨_,hz⟩|⟨g,cap,aj,rfl,_⟩⟩:=Qt
 ·omega
 ·exact⟨g,cap,rfl,ho,hb⟩
theorem bY.all {S:Nat->Prop} {W:World} {s n:Nat} {v:Value} {cs:List Value} (h:bY S W s v cs n):bY (fun _=>True) W s v cs n:=h.weak fun _ _=>trivial
theorem aEH {L:List Ent} {k:ByteArray} {x:Cel} {qs rest:List (Nat×Ent)} {N b:Nat} (h1:(qs.take N).map (·.2)=nG L k) (h2:rest.map (·.2)=rG L k):(qs.take N++((b,(k,x))::rest)).map (·.2)=nD L k x:=by
 rw[bZ,cA,h1,h2];rfl
theorem aMz (hs:ByteArray->Nat):aDk hs 0:=by
 intro S w L c b k x h hL hn he hT;have hh:=h;obtain⟨v,qs,rfl,h2,hq,h4⟩:=h;rw[show(((13-0:Nat):Nat):Int)=13 from rfl];have Uf:L.length=qs.length:=by rw[hq,aM]
 rw[Uf]at h2;obtain⟨va,vc,rfl,MQ⟩:=h2.head.shape;obtain⟨w1,ag⟩:∃w1,(w.alloc (.cells #[.int .u32 0,.slice none 0 0,.slice va qs.length vc] 134)).alloc (.cells #[.int .u32 0,.slice none 0 0,.slice none 0 0] 134)=w1:=⟨_,rfl⟩
 obtain⟨af,ai,aw,al⟩:=lA ag;have HX1:=iH ai;have bl:=iH aw;have HB1:=iH af;have HS1:=iH al;have HE:=iH he;have Xe:=iH (fun W (hb:Below w.heap.size w W)=>aEI W L _ k (hh.later hb) hL hO);obtain⟨N,hN⟩:∃N,N=(nG L k).length:=⟨_,rfl⟩
 rw[<-hN]at Xe;have E0:N<=qs.length:=by rw[hN,<-Uf];exact List.length_filter_le _ _
 have tv:(qs.take N).map (·.2)=nG L k:=by rw[uM,<-hq,hN];exact aPI hL k
 have Qu:(qs.drop N).map (·.2)=atE L k++rG L k:=by rw[uN,<-hq,hN];exact aIf hL k
 obtain⟨a1,c1,Ly,bu⟩:=aKX (P:=Tryz.prog) 132 aCX aG6 h2.head.cut E0;obtain⟨a3,c3,gi,We⟩:=aD4 (P:=Tryz.prog) 132 aCX aG6 h2.head.cut E0;rw[zS aBA]at Ly;rw[uE aBA]at gi;have bd:=iH Ly;have xz:=iH gi;have Ug:=iH h4;have Qv:=iH tv;have Lz:=iH Qu;have BQ:=iH (And.intro Uf hn);have BR:=iH E0;have AT:=iH hq;obtain⟨is,Dm⟩:∃is,is=(jB L k).isSome:=⟨_,rfl⟩
 rw[<-Dm]at Xe;have zo:=iH Dm;have Xf:w.cell? ⟨b,0,none⟩=some (.string k):=by
  obtain⟨_,fr,h⟩:=he;exact aG h rfl
 have xd:=iH Xf;have jt:=iH he.lt;clear hh h2 hq h4 ai aw af al he hL hn Uf E0 tv Qu Ly gi Dm Xf hN hT;unfold pv;go_enter Tryz.func155,Tryz.ntmps155;go_upto_region 2 with fail
 clear ag;have ar:Hid (∀V,Below w1.heap.size w1 V->(V.heap[w.heap.size]? =some (.cells #[.int .u32 0,.slice none 0 0,.slice va qs.length vc] 134 (0,0))/\V.cell? ⟨b,0,none⟩=some (.string k))):=fun V hV=>
  ⟨(hV.block _ uBu).trans HX1.out,((tW HB1.out hV).cell (p:=⟨b,0,none⟩) jt.out).trans xd.out⟩
 have HW:Hid (Below w1.heap.size w1 w1.drew):=aY w1;refine bO (S:=(fun V=>V.heap[w.heap.size]? =some (.cells #[.int .u32 0,.slice none 0 0,.slice va qs.length vc] 134 (0,0))/\V.cell? ⟨b,0,none⟩=some (.string k))) [] uAu uAw (fun ab=> ?_);refine tyA 0 16 (hy:=aJ uAz 134 _ rfl w.heap.size rfl #[.int .u32 0,.slice none 0 0,.slice va qs.length vc] 134 (0,0) _ (fun w hw=>hw.1) Tryz.underlying134 rfl uYu) (h:=?_);refine tkA 1 17 (h:=?_);(try simp only[pq]);refine tkA 2 18 (h:=?_);refine tkA 3 19 (h:=?_);(try simp only[pq]);refine tkA 4 20 (h:=?_);(try simp only[pq]);refine tkO 5 (some 21) (h:=fun K hK=> ?_);go_simp;go_at_call 178;refine(Xe.out _ (tW HB1.out HW.out)).mono ?_;rintro r w2 ⟨rfl,hb⟩;replace HW:=iH (tW HW.out hb);clear hb;dsimp only;refine hK.out _ _ uAw (fun ab=> ?_);clear hK K;(try simp only[pq]);refine tkA 6 15 (h:=?_);refine tkA 7 22 (h:=?_);(try simp only[pq]);refine tkA 8 23 (h:=?_);refine tkA 9 7 (h:=?_);(try simp only[pq]);refine tkA 10 8 (h:=?_);(try simp only[pq]);refine bJ uAu ?_ _;have IB:=iH (ar.out _ HW.out).1;have BS:=iH ((HW.out.block _ uBu).trans bl.out);have ic:w2.cell? ⟨w.heap.size,2,none⟩=some (.slice va qs.length vc):=aG IB.out rfl;have zp:=iH (tW HB1.out HW.out);have zq:Hid (w.heap.size+2<=w2.heap.size):=by show _<=_;have:=HW.out.size;have:=HS1.out;omega
 clear ar HW ab;cases is with
 |false=>
  have E1:Hid ((qs.drop N).map (·.2)=rG L k):=by
   show _=_;rw[Lz.out,aL8 (by simpa using zo.out.symm),aT]
  have ve:Hid ((qs.map (·.1)).take N=(qs.take N).map (·.1)):=uM.symm;have Xg:Hid ((qs.map (·.1)).drop N=(qs.drop N).map (·.1)):=uN.symm;have HT:Hid ((qs.take N++((b,(k,x))::(qs.drop N))).length<=60000/\((qs.take N).map (·.1)).length=N/\((qs.drop N).map (·.1)).length=qs.length-N):=by
   show _/\_/\_;have h1:=BR.out;exact Ak5
  go_wp2_with fail
  obtain⟨W3,ia⟩:∃W3,(w2.alloc (.cells #[.pointer (some ⟨b,0,none⟩)] 211)).alloc (.cells #[.slice a1 N c1,.slice (some ⟨w2.heap.size,0,none⟩) 1 1,.slice a3 (qs.length-N) c3] 132)=W3:=⟨_,rfl⟩
  obtain⟨au,lf,zr,gi⟩:=lA ia;rw[ia];refine(aIs W3 (w2.heap.size+1) (.slice a1 N c1) (.slice (some ⟨w2.heap.size,0,none⟩) 1 1) (.slice a3 (qs.length-N) c3) ((qs.take N).map (·.1)) [b] ((qs.drop N).map (·.1)) (aG zr rfl) (aG zr rfl) (aG zr rfl) uJw (aJG lf) (by rw[HT.out.2.2];exact(by rw[<-Xg.out];exact((xz.out.later zp.out).later au).all)) (by have:=HT.out.1;simp at this ⊢;omega) (by rw[aB,aB,cQ];omega)).mono ?_;rintro r w5 ⟨g5,c5,hr,L0,ay⟩;obtain⟨n5,qj⟩:∃n5,n5=((qs.take N).map (·.1)++([b]++(qs.drop N).map (·.1))).length:=⟨_,rfl⟩
  rw[<-qj]at hr L0;subst hr;have E3:=iH qj;have Oh:=iH L0;have bp:=iH (zp.out.trans ((au.trans (ay.mono hO)).mono zp.out.size));have gk:=iH ((ay.block _ uQw).trans ((au.block _ uQw).trans BS.out));have L1:Hid (w.heap.size+2<=W3.heap.size):=(by show _<=_;have:=zq.out;omega)
  clear au lf zr gi ia L0 ay qj;go_wp2_with (refine aV rfl 134 _ _ rfl (w.heap.size+1) #[.int .u32 0,.slice none 0 0,.slice (some ⟨g5,0,none⟩) n5 c5] rfl rfl 134 _ gk.out iT rfl uAx ?_;intro w6 h6 k6)
  refine aN (bE rfl _ _ (w.heap.size+1) 134 _ (0,0) _ rfl h6 Tryz.underlying134 rfl iT) rfl ⟨_,rfl,?_,bp.out.trans (k6.below hO)⟩;have Qw:=Oh.out;have e:(qs.take N).map (·.1)++([b]++(qs.drop N).map (·.1))=(qs.take N++((b,(k,x))::(qs.drop N))).map (·.1):=by rw[bZ,cA];rfl
  have qj:=E3.out;rw[e,aM]at qj;rw[e,qj]at Qw;rw[qj];rw[<-aEH (b:=b) (x:=x) Qv.out E1.out];have si:=aEy (hs:=hs) (S:=fun g=>S g/\g<w.heap.size) (w:=W3) (w':=w5) (by rw[aB,aD];omega) Qw (fun q hq=>by
   rcases dL.1 hq with hq|hq
   ·exact(Ug.out q (oX hq)).old.later bp.out
   ·rcases bL.1 hq with rfl|hq
    ·exact HE.out.old.later bp.out
    ·exact(Ug.out q (uV hq)).old.later bp.out)
  have ia:=L1.out;exact(si.kp (Kp.only k6 (fun h=>by omega))).weak fun g hg=>by
   exact Ae6
 |true=>
  have hlt:N+1<=qs.length:=by
   have h1:=aU List.length Lz.out;obtain⟨y,hy⟩:=qH.1 zo.out.symm;rw[aGj hy]at h1;simp at h1;omega
  obtain⟨a4,c4,Ac,Ai⟩:=aD4 (P:=Tryz.prog) 132 aCX aG6 xz.out (lo:=1) hO;rw[uE aBA,gH]at Ac;have IC:∀w,(Instr.slice 132 (.slice a3 (qs.length-N) c3) (some (.int .i64 1)) none none).run Tryz.prog w=.ok (.slice a4 (qs.length-N-1) c4) w:=Ai
  have vj:=iH Ac;have E1:Hid ((qs.drop (N+1)).map (·.2)=rG L k):=by
   show _=_;obtain⟨y,hy⟩:=qH.1 zo.out.symm;have h1:=Lz.out;rw[aGj hy]at h1;rw[<-gH,uN,h1];rfl
  have ve:Hid ((qs.map (·.1)).take N=(qs.take N).map (·.1)):=uM.symm;have Xg:Hid ((qs.map (·.1)).drop (N+1)=(qs.drop (N+1)).map (·.1)):=uN.symm;have Xh:=iH hlt;clear Ac Ai hlt;have HT:Hid ((qs.take N++((b,(k,x))::(qs.drop (N+1)))).length<=60000/\((qs.take N).map (·.1)).length=N/\((qs.drop (N+1)).map (·.1)).length=qs.length-N-1):=by
   show _/\_/\_;have h1:=BR.out;have h3:=Xh.out;exact Ak5
  go_wp2_with fail
  obtain⟨W3,ia⟩:∃W3,(w2.alloc (.cells #[.pointer (some ⟨b,0,none⟩)] 211)).alloc (.cells #[.slice a1 N c1,.slice (some ⟨w2.heap.size,0,none⟩) 1 1,.slice a4 (qs.length-N-1) c4] 132)=W3:=⟨_,rfl⟩
  obtain⟨au,lf,zr,gi⟩:=lA ia;rw[ia];refine(aIs W3 (w2.heap.size+1) (.slice a1 N c1) (.slice (some ⟨w2.heap.size,0,none⟩) 1 1) (.slice a4 (qs.length-N-1) c4) ((qs.take N).map (·.1)) [b] ((qs.drop (N+1)).map (·.1)) (aG zr rfl) (aG zr rfl) (aG zr rfl) uJw (aJG lf) (by rw[HT.out.2.2];exact(by rw[<-Xg.out];exact((vj.out.later zp.out).later au).all)) (by have:=HT.out.1;simp at this ⊢;omega) (by rw[aB,aB,cQ];omega)).mono ?_;rintro r w5 ⟨g5,c5,hr,L0,ay⟩;obtain⟨n5,qj⟩:∃n5,n5=((qs.take N).map (·.1)++([b]++(qs.drop (N+1)).map (·.1))).length:=⟨_,rfl⟩
  rw[<-qj]at hr L0;subst hr;have E3:=iH qj;have Oh:=iH L0;have bp:=iH (zp.out.trans ((au.trans (ay.mono hO)).mono zp.out.size));have gk:=iH ((ay.block _ uQw).trans ((au.block _ uQw).trans BS.out));have L1:Hid (w.heap.size+2<=W3.heap.size):=(by show _<=_;have:=zq.out;omega)
  clear au lf zr gi ia L0 ay qj;go_wp2_with (refine aV rfl 134 _ _ rfl (w.heap.size+1) #[.int .u32 0,.slice none 0 0,.slice (some ⟨g5,0,none⟩) n5 c5] rfl rfl 134 _ gk.out iT rfl uAx ?_;intro w6 h6 k6)
  refine aN (bE rfl _ _ (w.heap.size+1) 134 _ (0,0) _ rfl h6 Tryz.underlying134 rfl iT) rfl ⟨_,rfl,?_,bp.out.trans (k6.below hO)⟩;have Qw:=Oh.out;have e:(qs.take N).map (·.1)++([b]++(qs.drop (N+1)).map (·.1))=(qs.take N++((b,(k,x))::(qs.drop (N+1)))).map (·.1):=by rw[bZ,cA];rfl
  have qj:=E3.out;rw[e,aM]at qj;rw[e,qj]at Qw;rw[qj];rw[<-aEH (b:=b) (x:=x) Qv.out E1.out];have si:=aEy (hs:=hs) (S:=fun g=>S g/\g<w.heap.size) (w:=W3) (w':=w5) (by rw[aB,aD];omega) Qw (fun q hq=>by
   rcases dL.1 hq with hq|hq
   ·exact(Ug.out q (oX hq)).old.later bp.out
   ·rcases bL.1 hq with rfl|hq
    ·exact HE.out.old.later bp.out
    ·exact(Ug.out q (uV hq)).old.later bp.out)
  have ia:=L1.out;exact(si.kp (Kp.only k6 (fun h=>by omega))).weak fun g hg=>by
   exact Ae6
end Go.Proofs.YthmfgidbcghnfaaGreatDoor
