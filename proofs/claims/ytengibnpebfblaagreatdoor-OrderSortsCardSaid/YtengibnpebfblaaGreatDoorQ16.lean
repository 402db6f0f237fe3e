import Derived.Test.YtengibnpebfblaaGreatDoorQ0
import Derived.Test.YtengibnpebfblaaGreatDoorQ15
set_option maxRecDepth 1000000
set_option maxHeartbeats 8000000
set_option linter.unusedSimpArgs false
namespace Go.Proofs.YtengibnpebfblaaGreatDoor
open Go.RowKit
theorem aNg {α:Type} {R:Rg α} {i:Nat} (hi:i<32) {x:α} (h:R i=some x):(i,x)∈iR R:=fY (aI6 R hi h)
theorem aLR {α:Type} {R:Rg α} {i:Nat} (hi:i<32) {x:α} (h:R i=some x) (ho:∀j,j<32->j≠i->R j=none):iR R=[(i,x)]:=by
 unfold iR;rw[aBo hi,kQ,kQ];have e1:(List.range i).filterMap (fun j=>(R j).map fun x=>(j,x))=[]:=by
  rw[List.filterMap_eq_nil_iff];intro j hj;rw[fL]at hj;rw[ho j uAu uAu];rfl
 have e2:((List.range (31-i)).map (i+1+ ·)).filterMap (fun j=>(R j).map fun x=>(j,x))=[]:=by
  rw[List.filterMap_eq_nil_iff];intro j hj;rw[cH]at hj;obtain⟨a,ha,rfl⟩:=hj;rw[fL]at ha;rw[ho _ uAu uAu];rfl
 rw[e1,e2];simp[h]
section
variable {hs : ByteArray → Nat} {S : Nat → Prop} {w : World} {f : Nat} {L : List Ent} {R : Rg Pl} {lv : Nat}
theorem aMx {e:Ent} (h:∀i,i<32->oY hs S w (dF hs S f w) (chE hs lv i [e]) (R i)):∃b,jI hs S w b e/\iR R=[(iZ (hs e.1) lv,(some b,none))]:=by
 have hi:=sM (hs e.1) lv;have h1:=h _ hi;rw[show chE hs lv (iZ (hs e.1) lv) [e]=[e] by simp[chE]]at h1;obtain⟨b,h2,h3⟩:=h1;refine⟨b,h3,aLR hi h2 fun j hj hne=> ?_⟩;have h4:=h j hj;rw[show chE hs lv j [e]=[] by simp[chE,Ne.symm hne]]at h4;exact h4
theorem aKl {a b:Ent} {M:List Ent} (hL:L=a::b::M) (h:∀i,i<32->oY hs S w (dF hs S f w) (chE hs lv i L) (R i)) (h1:fQ R 32=1):(nZ R).2.1.1=none:=by
 have hl:(iR R).length=1:=by rw[qP,h1]
 obtain⟨p,hp⟩:=List.length_eq_one_iff.1 hl;have hm:=aGf (R:=R) (p:=p) (by rw[hp];exact cB.2 rfl);have huniq:∀j,j<32->(R j).isSome=true->j=p.1:=fun j hj hs=>by
  obtain⟨x,hx⟩:=pJ.1 hs;have:=aNg hj hx;rw[hp,cB]at this;rw[<-this]
 have hall:chE hs lv p.1 L=L:=by
  unfold chE;rw[aEI];intro e he;have hj:=sM (hs e.1) lv;have hpl:=h _ hj;have hne:e∈chE hs lv (iZ (hs e.1) lv) L:=aNS.2 ⟨he,rfl⟩;have hsome:(R (iZ (hs e.1) lv)).isSome=true:=by
   generalize chE hs lv (iZ (hs e.1) lv) L=K at hpl hne
   match K,hpl,hne with
   |[],_,hne=>cases hne
   |[x],hpl,_=>obtain⟨b,h2,_⟩:=hpl;rw[h2];rfl
   |x::y::r,hpl,_=>obtain⟨b,c,fr,h2,_⟩:=hpl;rw[h2];rfl
  rw[iJ];exact huniq _ hj hsome
 have h2:=h p.1 hm.1;rw[hall,hL]at h2;obtain⟨g,c,fr,h3,_⟩:=h2;rw[hm.2]at h3;unfold nZ;rw[hp];simp only;rw[aN h3]
end
def aEA (hs:ByteArray->Nat) (f:Nat):Prop:=∀(S:Nat->Prop) (w:World) (L:List Ent) (c:Array Value),dF hs S f w L c->L≠[]->fW w->
  Calls Tryz.prog 179 #[.agg c] w fun r w'=>∃p,r=.returned (.agg (plc p))/\oY hs (fun g=>S g\/w.heap.size<=g) w' (dF hs (fun g=>S g\/w.heap.size<=g) f w') L (some p)/\Below w.heap.size w w'
theorem aBs {hs:ByteArray->Nat} {S:Nat->Prop} {w w':World} {f:Nat} {a b:Ent} {M:List Ent} {c:Array Value} {fr:Nat×Nat} (h:dF hs S f w (a::b::M) c) (hb:Below w.heap.size w w') (hx:w'.heap[w.heap.size]? =some (.cells c 96 fr)):
  oY hs (fun g=>S g\/w.heap.size<=g) w' (dF hs (fun g=>S g\/w.heap.size<=g) f w') (a::b::M) (some (none,some w.heap.size)):=
 ⟨_,c,fr,rfl,.inr (aE _),hx,(h.later hb).weak fun _ h=>.inl h⟩
theorem aH5 (hs:ByteArray->Nat):aEA hs 0:=by
 intro S w L c h hne hT;have hh:=h;obtain⟨v,qs,rfl,h2,hq,h4⟩:=h;obtain⟨hl,h2⟩:=h2;rcases h2 with⟨h0,_⟩|⟨h0,g,cp,cur,rfl,hcp,hS,hgg,hc⟩
 ·exact absurd (aT h0) hne
 ·match L,hne,hh,hq,h0 with
  |[e],_,hh,hq,_=>
   obtain⟨q,rfl⟩:∃q,qs=[q]:=List.length_eq_one_iff.1 (by have:=bH List.length hq;simpa using this.symm)
   obtain rfl:e=q.2:=by simpa using hq
   have HE:=iH (h4 q (cB.2 rfl));have hcell:w.cell? ⟨g,0,none⟩=some (pv (some q.1)):=aK hgg (hc 0 _ rfl);rw[show[q.2].length=1 from rfl];obtain⟨w1,hw1⟩:∃w1,(w.alloc (.cells #[.int .u32 0,.slice none 0 0,.slice (some ⟨g,0,none⟩) 1 cp] 96)).alloc (.cells #[.pointer none,.pointer none] 186)=w1:=⟨_,rfl⟩
   obtain⟨hb1,hx1,hy1,hs1⟩:=kF hw1;have HX1:=iH hx1;have HY1:=iH hy1;have HB1:=iH hb1;have HS1:=iH hs1;have ca2:w1.cell? ⟨w.heap.size,2,none⟩=some (.slice (some ⟨g,0,none⟩) 1 cp):=aK hx1 rfl;have hc1:w1.cell? ⟨g,0,none⟩=some (.pointer (some ⟨q.1,0,none⟩)):=(hb1.cell (p:=⟨g,0,none⟩) (gZ hgg)).trans hcell;clear hh hq hx1 hy1 hb1 hs1 h4 hl hc hgg hcell;go_enter Tryz.func179,Tryz.ntmps179;go_upto_region 1 with fail
   clear hw1;go_wp2_with (first
    |(refine bV rfl 186 _ _ rfl (w.heap.size+1) (plc (some q.1,none)) rfl rfl 186 _ HY1.out dJ rfl (gM (some q.1,none)) ?_;intro w4 h4 k4))
   exact bF (cE rfl _ _ (w.heap.size+1) 186 _ (0,0) _ rfl h4 Tryz.underlying186 rfl dJ) rfl ⟨(some q.1,none),rfl,⟨q.1,rfl,(HE.out.later (HB1.out.trans (k4.below uAu))).weak fun _ h=>.inl h⟩,HB1.out.trans (k4.below uAu)⟩
  |a::b::M,_,hh,_,_=>
   obtain⟨N,hN⟩:∃N,N=(a::b::M).length:=⟨_,rfl⟩
   have hN1:((N:Int)==1)=false:=bJ.2 (by rw[hN,aL,aL];omega);have HH:=iH hh;rw[<-hN]at HH ⊢;obtain⟨w1,hw1⟩:∃w1,(w.alloc (.cells #[.int .u32 0,.slice none 0 0,.slice (some ⟨g,0,none⟩) N cp] 96)).alloc (.cells #[.pointer none,.pointer none] 186)=w1:=⟨_,rfl⟩
   obtain⟨hb1,hx1,hy1,hs1⟩:=kF hw1;have HX1:=iH hx1;have HY1:=iH hy1;have HB1:=iH hb1;have HS1:=iH hs1;have ca2:w1.cell? ⟨w.heap.size,2,none⟩=some (.slice (some ⟨g,0,none⟩) N cp):=aK hx1 rfl;have HF:=iH (fun W (hb:Below w.heap.size w W)=>aFi W noG _ (AtR.zero (fun _=>True) W) (hT.below hb));have hf0:nZ (noG:Rg Pl)=(0,(none,none),false):=rfl;rw[hf0]at HF;have HLN:=iH (fun W=>aKB W noG _ (AtR.zero (fun _=>True) W));rw[zG]at HLN;clear hh hx1 hy1 hb1 hs1 h4 hl hc hgg hq hN hcp h0 hf0;go_enter Tryz.func179,Tryz.ntmps179;go_upto_region 1 with fail
   clear hw1;go_wp2_with (first
    |(refine dA rfl 93 _ rfl w.heap.size 0 rfl [.int .u32 0,.slice none 0 0] _ (jM HX1.out) Tryz.underlying93 rfl iP ?_)
    |(refine dA rfl 93 _ rfl w.heap.size 0 rfl [.int .u32 0,.slice none 0 0] _ (jM HX4.out) Tryz.underlying93 rfl iP ?_)
    |(go_at_call 190;refine(HF.out _ HB1.out).mono ?_;rintro r w2 ⟨rfl,hb⟩;have HX2:=iH ((hb.block _ uBx).trans HX1.out);have HY2:=iH ((hb.block _ uBx).trans HY1.out);have HB2:=iH (tW HB1.out hb);have HS2:Hid (w.heap.size+2<=w2.heap.size):=uEv;clear hb)
    |(refine bV rfl 186 _ _ rfl w2.heap.size (plc (none,none)) rfl rfl 186 (plc (none,none)) (aF w2 _) dJ rfl (gM _) ?_;intro w3 h3 k3;have HP3:=iH h3;have hbb:Below w2.heap.size w2 w3:=(Below.newly' w2 _).trans (k3.below (aE _));have HX3:=iH ((hbb.block _ uBw).trans HX2.out);have HY3:=iH ((hbb.block _ uBw).trans HY2.out);have HB3:=iH (tW HB2.out hbb);have HS3:Hid (w2.heap.size<w3.heap.size):=(gZ h3);have HX4:=HX3;obtain⟨X,hX⟩:∃X,X=w2.heap.size:=⟨_,rfl⟩;rw[<-hX]at HP3 HS3 ⊢;have HXX:Hid (w.heap.size+2<=X):=uGw;clear h3 k3 hbb hX)
    |(go_at_call 191;refine(HLN.out _).mono ?_;rintro r w5 ⟨rfl,hb⟩;have HP5:=iH ((hb.block _ HS3.out).trans HP3.out);have HX5:=iH ((hb.block _ uCx).trans HX3.out);have HY5:=iH ((hb.block _ uCx).trans HY3.out);have HB5:=iH (tW HB3.out hb);have cp5:w5.cell? ⟨X,0,none⟩=some (.pointer none):=aK HP5.out rfl;clear hb)
    |(refine bR uAz 186 _ rfl X rfl 186 _ _ _ HP5.out Tryz.underlying186 rfl dJ ?_)
    |(refine bV rfl 186 _ _ rfl (w.heap.size+1) (plc (none,some w.heap.size)) rfl rfl 186 _ HY5.out dJ rfl (gM (none,some w.heap.size)) ?_;intro w6 h6 k6))
   exact bF (cE rfl _ _ (w.heap.size+1) 186 _ (0,0) _ rfl h6 Tryz.underlying186 rfl dJ) rfl ⟨(none,some w.heap.size),rfl,aBs HH.out (HB5.out.trans (k6.below uAu)) (k6.other HX5.out uAu),HB5.out.trans (k6.below uAu)⟩
theorem aH4 (hs:ByteArray->Nat) (f:Nat):aEA hs (f+1):=by
 intro S w L c h hne hT;have hh:=h;obtain⟨b0,v0,R,rfl,hrow,hpl⟩:=h.row;obtain⟨bb,rfl⟩:∃bb:Nat,b0=.int .u32 (bb:Int):=by obtain⟨v',e,_⟩:=hrow;simp only[gK,eH]at e;exact⟨_,e.1⟩
 obtain⟨va,vn,vc,rfl⟩:∃a n c,v0=.slice a n c:=by obtain⟨a,n,e⟩:=hrow.shape;simp only[gK,eH]at e;exact⟨_,_,_,e.2.1⟩
 have HF:=iH (fun W (hb:Below w.heap.size w W)=>aFi W R _ (hrow.later hb) (hT.below hb));have HLN:=iH (fun W (hb:Below w.heap.size w W)=>aKB W R _ (hrow.later hb));obtain⟨w1,hw1⟩:∃w1,(w.alloc (.cells #[.int .u32 (bb:Int),.slice va vn vc,.slice none 0 0] 96)).alloc (.cells #[.pointer none,.pointer none] 186)=w1:=⟨_,rfl⟩
 obtain⟨hb1,hx1,hy1,hs1⟩:=kF hw1;have HX1:=iH hx1;have HY1:=iH hy1;have HB1:=iH hb1;have HS1:=iH hs1;have ca2:w1.cell? ⟨w.heap.size,2,none⟩=some (.slice none 0 0):=aK hx1 rfl
 match L,hne,hh,hpl with
 |[e],_,hh,hpl=>
  obtain⟨b,he,hall⟩:=aMx hpl;have hf0:nZ R=((iZ (hs e.1) ((12-f:Nat):Int):Int),(some b,none),true):=by unfold nZ;rw[hall]
  have hc0:fQ R 32=1:=by rw[<-qP,hall];rfl
  rw[hf0]at HF;rw[hc0]at HLN;have HE:=iH he;clear hh hpl hx1 hy1 hb1 hs1 hrow hall hf0 hc0 he h;go_enter Tryz.func179,Tryz.ntmps179;go_upto_region 1 with fail
  clear hw1;go_wp2_with (first
   |(refine dA rfl 93 _ rfl w.heap.size 0 rfl [.int .u32 (bb:Int),.slice va vn vc] _ (jM HX1.out) Tryz.underlying93 rfl iP ?_)
   |(refine dA rfl 93 _ rfl w.heap.size 0 rfl [.int .u32 (bb:Int),.slice va vn vc] _ (jM HX4.out) Tryz.underlying93 rfl iP ?_)
   |(go_at_call 190;refine(HF.out _ HB1.out).mono ?_;rintro r w2 ⟨rfl,hb⟩;have HX2:=iH ((hb.block _ uBx).trans HX1.out);have HY2:=iH ((hb.block _ uBx).trans HY1.out);have HB2:=iH (tW HB1.out hb);have HS2:Hid (w.heap.size+2<=w2.heap.size):=uEv;clear hb)
   |(refine bV rfl 186 _ _ rfl w2.heap.size (plc (some b,none)) rfl rfl 186 (plc (none,none)) (aF w2 _) dJ rfl (gM _) ?_;intro w3 h3 k3;have HP3:=iH h3;have hbb:Below w2.heap.size w2 w3:=(Below.newly' w2 _).trans (k3.below (aE _));have HX3:=iH ((hbb.block _ uBw).trans HX2.out);have HY3:=iH ((hbb.block _ uBw).trans HY2.out);have HB3:=iH (tW HB2.out hbb);have HS3:Hid (w2.heap.size<w3.heap.size):=(gZ h3);have HX4:=HX3;obtain⟨X,hX⟩:∃X,X=w2.heap.size:=⟨_,rfl⟩;rw[<-hX]at HP3 HS3 ⊢;have HXX:Hid (w.heap.size+2<=X):=uGw;clear h3 k3 hbb hX)
   |(go_at_call 191;refine(HLN.out _ (HB3.out)).mono ?_;rintro r w5 ⟨rfl,hb⟩;have HP5:=iH ((hb.block _ HS3.out).trans HP3.out);have HX5:=iH ((hb.block _ uCx).trans HX3.out);have HY5:=iH ((hb.block _ uCx).trans HY3.out);have HB5:=iH (tW HB3.out hb);have cp5:w5.cell? ⟨X,0,none⟩=some (.pointer (some ⟨b,0,none⟩)):=aK HP5.out rfl;clear hb)
   |(refine bR uAz 186 _ rfl X rfl 186 _ _ _ HP5.out Tryz.underlying186 rfl dJ ?_)
   |(refine bV rfl 186 _ _ rfl (w.heap.size+1) (plc (some b,none)) rfl rfl 186 _ HY5.out dJ rfl (gM (some b,none)) ?_;intro w6 h6 k6))
  exact bF (cE rfl _ _ (w.heap.size+1) 186 _ (0,0) _ rfl h6 Tryz.underlying186 rfl dJ) rfl ⟨(some b,none),rfl,⟨b,rfl,(HE.out.later (HB5.out.trans (k6.below uAu))).weak fun _ h=>.inl h⟩,HB5.out.trans (k6.below uAu)⟩
 |x::y::M,_,hh,hpl=>
  have hmore:=aKl rfl hpl;have HH:=iH hh;obtain⟨⟨fi,⟨fo,fm⟩,fb⟩,hf0⟩:∃z,z=nZ R:=⟨_,rfl⟩
  rw[<-hf0]at HF hmore;simp only at HF hmore;obtain⟨n,hn⟩:∃n,n=fQ R 32:=⟨_,rfl⟩
  rw[<-hn]at HLN hmore;clear hh hpl hx1 hy1 hb1 hs1 hrow hf0 hn h;by_cases h1:n=1
  obtain rfl:=hmore h1
  subst h1;clear hmore;go_enter Tryz.func179,Tryz.ntmps179;go_upto_region 1 with fail
  clear hw1;go_wp2_with (first
   |(refine dA rfl 93 _ rfl w.heap.size 0 rfl [.int .u32 (bb:Int),.slice va vn vc] _ (jM HX1.out) Tryz.underlying93 rfl iP ?_)
   |(refine dA rfl 93 _ rfl w.heap.size 0 rfl [.int .u32 (bb:Int),.slice va vn vc] _ (jM HX4.out) Tryz.underlying93 rfl iP ?_)
   |(go_at_call 190;refine(HF.out _ HB1.out).mono ?_;rintro r w2 ⟨rfl,hb⟩;have HX2:=iH ((hb.block _ uBx).trans HX1.out);have HY2:=iH ((hb.block _ uBx).trans HY1.out);have HB2:=iH (tW HB1.out hb);have HS2:Hid (w.heap.size+2<=w2.heap.size):=uEv;clear hb)
   |(refine bV rfl 186 _ _ rfl w2.heap.size (plc (none,fm)) rfl rfl 186 (plc (none,none)) (aF w2 _) dJ rfl (gM _) ?_;intro w3 h3 k3;have HP3:=iH h3;have hbb:Below w2.heap.size w2 w3:=(Below.newly' w2 _).trans (k3.below (aE _));have HX3:=iH ((hbb.block _ uBw).trans HX2.out);have HY3:=iH ((hbb.block _ uBw).trans HY2.out);have HB3:=iH (tW HB2.out hbb);have HS3:Hid (w2.heap.size<w3.heap.size):=(gZ h3);have HX4:=HX3;obtain⟨X,hX⟩:∃X,X=w2.heap.size:=⟨_,rfl⟩;rw[<-hX]at HP3 HS3 ⊢;have HXX:Hid (w.heap.size+2<=X):=uGw;clear h3 k3 hbb hX)
   |(go_at_call 191;refine(HLN.out _ (HB3.out)).mono ?_;rintro r w5 ⟨rfl,hb⟩;have HP5:=iH ((hb.block _ HS3.out).trans HP3.out);have HX5:=iH ((hb.block _ uCx).trans HX3.out);have HY5:=iH ((hb.block _ uCx).trans HY3.out);have HB5:=iH (tW HB3.out hb);have cp5:w5.cell? ⟨X,0,none⟩=some (.pointer none):=aK HP5.out rfl;clear hb)
   |(refine bR uAz 186 _ rfl X rfl 186 _ _ _ HP5.out Tryz.underlying186 rfl dJ ?_)
   |(refine bV rfl 186 _ _ rfl (w.heap.size+1) (plc (none,some w.heap.size)) rfl rfl 186 _ HY5.out dJ rfl (gM (none,some w.heap.size)) ?_;intro w6 h6 k6))
  rotate_left
  have hn1:((n:Int)==1)=false:=bJ.2 uAu
  clear hmore h1;go_enter Tryz.func179,Tryz.ntmps179;go_upto_region 1 with fail
  clear hw1;go_wp2_with (first
   |(refine dA rfl 93 _ rfl w.heap.size 0 rfl [.int .u32 (bb:Int),.slice va vn vc] _ (jM HX1.out) Tryz.underlying93 rfl iP ?_)
   |(refine dA rfl 93 _ rfl w.heap.size 0 rfl [.int .u32 (bb:Int),.slice va vn vc] _ (jM HX4.out) Tryz.underlying93 rfl iP ?_)
   |(go_at_call 190;refine(HF.out _ HB1.out).mono ?_;rintro r w2 ⟨rfl,hb⟩;have HX2:=iH ((hb.block _ uBx).trans HX1.out);have HY2:=iH ((hb.block _ uBx).trans HY1.out);have HB2:=iH (tW HB1.out hb);have HS2:Hid (w.heap.size+2<=w2.heap.size):=uEv;clear hb)
   |(refine bV rfl 186 _ _ rfl w2.heap.size (plc (fo,fm)) rfl rfl 186 (plc (none,none)) (aF w2 _) dJ rfl (gM _) ?_;intro w3 h3 k3;have HP3:=iH h3;have hbb:Below w2.heap.size w2 w3:=(Below.newly' w2 _).trans (k3.below (aE _));have HX3:=iH ((hbb.block _ uBw).trans HX2.out);have HY3:=iH ((hbb.block _ uBw).trans HY2.out);have HB3:=iH (tW HB2.out hbb);have HS3:Hid (w2.heap.size<w3.heap.size):=(gZ h3);have HX4:=HX3;obtain⟨X,hX⟩:∃X,X=w2.heap.size:=⟨_,rfl⟩;rw[<-hX]at HP3 HS3 ⊢;have HXX:Hid (w.heap.size+2<=X):=uGw;clear h3 k3 hbb hX)
   |(go_at_call 191;refine(HLN.out _ (HB3.out)).mono ?_;rintro r w5 ⟨rfl,hb⟩;have HP5:=iH ((hb.block _ HS3.out).trans HP3.out);have HX5:=iH ((hb.block _ uCx).trans HX3.out);have HY5:=iH ((hb.block _ uCx).trans HY3.out);have HB5:=iH (tW HB3.out hb);have cp5:w5.cell? ⟨X,0,none⟩=some (pv fo):=aK HP5.out rfl;clear hb)
   |(refine bR uAz 186 _ rfl X rfl 186 _ _ _ HP5.out Tryz.underlying186 rfl dJ ?_)
   |(refine bV rfl 186 _ _ rfl (w.heap.size+1) (plc (none,some w.heap.size)) rfl rfl 186 _ HY5.out dJ rfl (gM (none,some w.heap.size)) ?_;intro w6 h6 k6))
  all_goals
   exact bF (cE rfl _ _ (w.heap.size+1) 186 _ (0,0) _ rfl h6 Tryz.underlying186 rfl dJ) rfl ⟨(none,some w.heap.size),rfl,aBs HH.out (HB5.out.trans (k6.below uAu)) (k6.other HX5.out uAu),HB5.out.trans (k6.below uAu)⟩
theorem aLk (hs:ByteArray->Nat):∀f,aEA hs f
 |0=>aH5 hs
 |f+1=>aH4 hs f
end Go.Proofs.YtengibnpebfblaaGreatDoor
namespace Go.Proofs.YtengibnpebfblaaGreatDoor
open Go.RowKit
theorem aEh (w:World):(sizeOf (Tryz.prog.elem 94)).run Tryz.prog w=.ok 1 w:=by
 have e:Tryz.prog.elem 94=161:=by kernel_rfl
 rw[e];obtain⟨i,hi,_,h1,_⟩:=dV sJ;simp[sizeOf,typeInfo,hi,h1]
theorem aBX:Tryz.prog.underlying 94=some (.slice (Tryz.prog.elem 94)):=by kernel_rfl
def aCd (hs:ByteArray->Nat) (f:Nat):Prop:=∀(S:Nat->Prop) (w:World) (L:List Ent) (c:Array Value) (b:Nat) (k:ByteArray) (x:Cel),dF hs S f w L c->iO L->L.length<=50000->jI hs S w b (k,x)->fW w->
  Calls Tryz.prog 137 #[.agg c,.int .i64 ((13-f:Nat):Int),pv (some b)] w fun r w'=>∃c',r=.returned (.agg c')/\dF hs (fun g=>S g\/w.heap.size<=g) f w' (lD L k x) c'/\Below w.heap.size w w'
def aI8 (hs:ByteArray->Nat) (f:Nat):Prop:=∀(S:Nat->Prop) (w:World) (L:List Ent) (p:Option Pl) (b:Nat) (k:ByteArray) (x:Cel),oY hs S w (dF hs S f w) L p->iO L->L.length<=50000->jI hs S w b (k,x)->fW w->
  Calls Tryz.prog 151 #[.agg (plc (p.getD (none,none))),.int .i64 ((13-f:Nat):Int),pv (some b)] w fun r w'=>∃p',r=.returned (.agg (plc p'))/\oY hs (fun g=>S g\/w.heap.size<=g) w' (dF hs (fun g=>S g\/w.heap.size<=g) f w') (lD L k x) (some p')/\Below w.heap.size w w'
theorem aHa {W:World} {g b:Nat} (h:W.heap[g]? =some (.cells #[.pointer (some ⟨b,0,none⟩)] 161 (0,0))):bZ (fun _=>True) W 1 (.slice (some ⟨g,0,none⟩) 1 1) (en enE [b]) 1:=
 ⟨_,1,rfl,aE _,rfl,.inr ⟨g,0,rfl,trivial,(gZ h),fun j u hu=>by
  rw[dL];refine aK h ?_;simpa[en,enE,pv]using hu⟩⟩
theorem aD9 {hs:ByteArray->Nat} {S:Nat->Prop} {w w':World} {v:Value} {qs:List (Nat×Ent)} (h0:0<qs.length) (h:w'.ownsRow w.heap.size 161 1 v qs.length (en enE (qs.map (·.1)))) (he:∀q∈qs,jI hs S w' q.1 q.2):
  dF hs (fun g=>S g\/w.heap.size<=g) 0 w' (qs.map (·.2)) #[.int .u32 0,.slice none 0 0,v]:=by
 refine⟨v,qs,rfl,?_,rfl,fun q hq=>(he q hq).weak fun _ h=>.inl h⟩;have hz:=wQ h h0;rw[aH];obtain⟨h1,h2⟩:=hz;refine⟨h1,h2.imp_right ?_⟩;rintro⟨a1,g,c,cur,a2,a3,a4,a5,a6⟩;exact⟨a1,g,c,cur,a2,a3,.inr a4,a5,a6⟩
theorem aGb (w:World) (B:Nat) (v1 v2 v3:Value) (p1 p2 p3:List Nat) (h1:w.cell? ⟨B,0,none⟩=some v1) (h2:w.cell? ⟨B,1,none⟩=some v2) (h3:w.cell? ⟨B,2,none⟩=some v3)
  (c1:bZ (fun _=>True) w 1 v1 (en enE p1) p1.length) (c2:bZ (fun _=>True) w 1 v2 (en enE p2) p2.length) (c3:bZ (fun _=>True) w 1 v3 (en enE p3) p3.length) (hN:(p1++(p2++p3)).length<=100000) (h0:0<(p1++(p2++p3)).length):
  Calls Tryz.prog 149 #[.slice (some ⟨B,0,none⟩) 3 3] w fun e w'=>∃g c,e=.returned (.slice (some ⟨g,0,none⟩) (p1++(p2++p3)).length c)/\w'.ownsRow w.heap.size 161 1 (.slice (some ⟨g,0,none⟩) (p1++(p2++p3)).length c) (p1++(p2++p3)).length (en enE (p1++(p2++p3)))/\Below w.heap.size w w':=by
 have e:eZ [(v1,p1),(v2,p2),(v3,p3)] 3=p1++(p2++p3):=by simp[eZ]
 have h:=cc_ep aHY w (S:=fun _=>True) B [(v1,p1),(v2,p2),(v3,p3)] (fun k hk=>by
  match k,hk with
  |0,_=>exact h1
  |1,_=>exact h2
  |2,_=>exact h3) (fun q hq=>by
  simp only[bA,gX,wV]at hq;rcases hq with rfl|rfl|rfl
  ·exact c1
  ·exact c2
  ·exact c3) (by show(eZ _ 3).length<=_;rw[e];exact hN) uBu
 refine h.mono ?_;rintro r w' ⟨v,rfl,ho,hb⟩;change World.ownsRow _ _ _ _ v (eZ _ 3).length (en enE (eZ _ 3))at ho
 rw[e]at ho;have ho':=ho;obtain⟨_,⟨_,hz⟩|⟨g,cap,cur,rfl,_⟩⟩:=ho'
 ·omega
 ·exact⟨g,cap,rfl,ho,hb⟩
theorem bZ.all {S:Nat->Prop} {W:World} {s n:Nat} {v:Value} {cs:List Value} (h:bZ S W s v cs n):bZ (fun _=>True) W s v cs n:=h.weak fun _ _=>trivial
theorem aDe {L:List Ent} {k:ByteArray} {x:Cel} {qs rest:List (Nat×Ent)} {N b:Nat} (h1:(qs.take N).map (·.2)=mG L k) (h2:rest.map (·.2)=qV L k):(qs.take N++((b,(k,x))::rest)).map (·.2)=lD L k x:=by
 rw[bQ,cG,h1,h2];rfl
theorem aJi (hs:ByteArray->Nat):aCd hs 0:=by
 intro S w L c b k x h hL hn he hT;have hh:=h;obtain⟨v,qs,rfl,h2,hq,h4⟩:=h;rw[show(((13-0:Nat):Nat):Int)=13 from rfl];have hlq:L.length=qs.length:=by rw[hq,aH]
 rw[hlq]at h2;obtain⟨va,vc,rfl,hvc⟩:=h2.head.shape;obtain⟨w1,hw1⟩:∃w1,(w.alloc (.cells #[.int .u32 0,.slice none 0 0,.slice va qs.length vc] 96)).alloc (.cells #[.int .u32 0,.slice none 0 0,.slice none 0 0] 96)=w1:=⟨_,rfl⟩
 obtain⟨hb1,hx1,hy1,hs1⟩:=kF hw1;have HX1:=iH hx1;have HY1:=iH hy1;have HB1:=iH hb1;have HS1:=iH hs1;have HE:=iH he;have HSE:=iH (fun W (hb:Below w.heap.size w W)=>aDh W L _ k (hh.later hb) hL uAu);obtain⟨N,hN⟩:∃N,N=(mG L k).length:=⟨_,rfl⟩
 rw[<-hN]at HSE;have hNq:N<=qs.length:=by rw[hN,<-hlq];exact List.length_filter_le _ _
 have hbel:(qs.take N).map (·.2)=mG L k:=by rw[uA,<-hq,hN];exact aLz hL k
 have hdrp:(qs.drop N).map (·.2)=atE L k++qV L k:=by rw[pK,<-hq,hN];exact aG3 hL k
 obtain⟨a1,c1,hs1a,hr1⟩:=aC3 (P:=Tryz.prog) 94 aBX aEh h2.head.cut hNq;obtain⟨a3,c3,hs3,hr3⟩:=uW (P:=Tryz.prog) 94 aBX aEh h2.head.cut hNq;rw[zF aAW]at hs1a;rw[tS aAW]at hs3;have HC1:=iH hs1a;have HC3:=iH hs3;have HH4:=iH h4;have HBEL:=iH hbel;have HDRP:=iH hdrp;have HLQ:=iH (And.intro hlq hn);have HNQ:=iH hNq;have HHQ:=iH hq;obtain⟨is,his⟩:∃is,is=(gL L k).isSome:=⟨_,rfl⟩
 rw[<-his]at HSE;have HIS:=iH his;have cb0:w.cell? ⟨b,0,none⟩=some (.string k):=by
  obtain⟨_,fr,h⟩:=he;exact aK h rfl
 have HCB:=iH cb0;have HBL:=iH he.lt;clear hh h2 hq h4 hx1 hy1 hb1 hs1 he hL hn hlq hNq hbel hdrp hs1a hs3 his cb0 hN hT;unfold pv;go_enter Tryz.func137,Tryz.ntmps137;go_upto_region 2 with fail
 clear hw1;have HKS:Hid (∀V,Below w1.heap.size w1 V->(V.heap[w.heap.size]? =some (.cells #[.int .u32 0,.slice none 0 0,.slice va qs.length vc] 96 (0,0))/\V.cell? ⟨b,0,none⟩=some (.string k))):=fun V hV=>
  ⟨(hV.block _ uBx).trans HX1.out,((tW HB1.out hV).cell (p:=⟨b,0,none⟩) HBL.out).trans HCB.out⟩
 have HW:Hid (Below w1.heap.size w1 w1.drew):=bE w1;refine bL (S:=(fun V=>V.heap[w.heap.size]? =some (.cells #[.int .u32 0,.slice none 0 0,.slice va qs.length vc] 96 (0,0))/\V.cell? ⟨b,0,none⟩=some (.string k))) [] hO uAw (fun hHeld=> ?_);refine tyA 0 16 (hy:=aP uAz 96 _ rfl w.heap.size rfl #[.int .u32 0,.slice none 0 0,.slice va qs.length vc] 96 (0,0) _ (fun w hw=>hw.1) Tryz.underlying96 rfl uUu) (h:=?_);refine tkA 1 17 (h:=?_);(try simp only[pq]);refine tkA 2 18 (h:=?_);refine tkA 3 19 (h:=?_);(try simp only[pq]);refine tkA 4 20 (h:=?_);(try simp only[pq]);refine tkO 5 (some 21) (h:=fun K hK=> ?_);go_simp;go_at_call 130;refine(HSE.out _ (tW HB1.out HW.out)).mono ?_;rintro r w2 ⟨rfl,hb⟩;replace HW:=iH (tW HW.out hb);clear hb;dsimp only;refine hK.out _ _ uAw (fun hHeld=> ?_);clear hK K;(try simp only[pq]);refine tkA 6 15 (h:=?_);refine tkA 7 22 (h:=?_);(try simp only[pq]);refine tkA 8 23 (h:=?_);refine tkA 9 7 (h:=?_);(try simp only[pq]);refine tkA 10 8 (h:=?_);(try simp only[pq]);refine bK hO ?_ _;have HXW:=iH (HKS.out _ HW.out).1;have HYW:=iH ((HW.out.block _ uBx).trans HY1.out);have cx2:w2.cell? ⟨w.heap.size,2,none⟩=some (.slice va qs.length vc):=aK HXW.out rfl;have HBW:=iH (tW HB1.out HW.out);have HSW:Hid (w.heap.size+2<=w2.heap.size):=by show _<=_;have:=HW.out.size;have:=HS1.out;omega
 clear HKS HW hHeld;cases is with
 |false=>
  have HREST:Hid ((qs.drop N).map (·.2)=qV L k):=by
   show _=_;rw[HDRP.out,aI5 (by simpa using HIS.out.symm),bD]
  have HQ1:Hid ((qs.map (·.1)).take N=(qs.take N).map (·.1)):=uA.symm;have HQ3:Hid ((qs.map (·.1)).drop N=(qs.drop N).map (·.1)):=pK.symm;have HT:Hid ((qs.take N++((b,(k,x))::(qs.drop N))).length<=60000/\((qs.take N).map (·.1)).length=N/\((qs.drop N).map (·.1)).length=qs.length-N):=by
   show _/\_/\_;have h1:=HNQ.out;exact Aj2
  go_wp2_with fail
  obtain⟨W3,hW3⟩:∃W3,(w2.alloc (.cells #[.pointer (some ⟨b,0,none⟩)] 161)).alloc (.cells #[.slice a1 N c1,.slice (some ⟨w2.heap.size,0,none⟩) 1 1,.slice a3 (qs.length-N) c3] 94)=W3:=⟨_,rfl⟩
  obtain⟨hb3,hx3,hy3,hs3⟩:=kF hW3;rw[hW3];refine(aGb W3 (w2.heap.size+1) (.slice a1 N c1) (.slice (some ⟨w2.heap.size,0,none⟩) 1 1) (.slice a3 (qs.length-N) c3) ((qs.take N).map (·.1)) [b] ((qs.drop N).map (·.1)) (aK hy3 rfl) (aK hy3 rfl) (aK hy3 rfl) uHy (aHa hx3) (by rw[HT.out.2.2];exact(by rw[<-HQ3.out];exact((HC3.out.later HBW.out).later hb3).all)) (by have:=HT.out.1;simp at this ⊢;omega) (by rw[aD,aD,bM];omega)).mono ?_;rintro r w5 ⟨g5,c5,hr,ho5,hb5⟩;obtain⟨n5,hn5⟩:∃n5,n5=((qs.take N).map (·.1)++([b]++(qs.drop N).map (·.1))).length:=⟨_,rfl⟩
  rw[<-hn5]at hr ho5;subst hr;have HN5:=iH hn5;have HO5:=iH ho5;have HB5:=iH (HBW.out.trans ((hb3.trans (hb5.mono uAu)).mono HBW.out.size));have HY5:=iH ((hb5.block _ uMz).trans ((hb3.block _ uMz).trans HYW.out));have HW3:Hid (w.heap.size+2<=W3.heap.size):=(by show _<=_;have:=HSW.out;omega)
  clear hb3 hx3 hy3 hs3 hW3 ho5 hb5 hn5;go_wp2_with (refine bV rfl 96 _ _ rfl (w.heap.size+1) #[.int .u32 0,.slice none 0 0,.slice (some ⟨g5,0,none⟩) n5 c5] rfl rfl 96 _ HY5.out iI rfl uAy ?_;intro w6 h6 k6)
  refine bF (cE rfl _ _ (w.heap.size+1) 96 _ (0,0) _ rfl h6 Tryz.underlying96 rfl iI) rfl ⟨_,rfl,?_,HB5.out.trans (k6.below uAu)⟩;have ho6:=HO5.out;have e:(qs.take N).map (·.1)++([b]++(qs.drop N).map (·.1))=(qs.take N++((b,(k,x))::(qs.drop N))).map (·.1):=by rw[bQ,cG];rfl
  have hn5:=HN5.out;rw[e,aH]at hn5;rw[e,hn5]at ho6;rw[hn5];rw[<-aDe (b:=b) (x:=x) HBEL.out HREST.out];have hnode:=aD9 (hs:=hs) (S:=fun g=>S g/\g<w.heap.size) (w:=W3) (w':=w5) (by rw[aD,aL];omega) ho6 (fun q hq=>by
   rcases cP.1 hq with hq|hq
   ·exact(HH4.out q (dI hq)).old.later HB5.out
   ·rcases bA.1 hq with rfl|hq
    ·exact HE.out.old.later HB5.out
    ·exact(HH4.out q (gY hq)).old.later HB5.out)
  have hW3:=HW3.out;exact(hnode.kp (Kp.only k6 (fun h=>by omega))).weak fun g hg=>by
   exact Af6
 |true=>
  have hlt:N+1<=qs.length:=by
   have h1:=bH List.length HDRP.out;obtain⟨y,hy⟩:=pJ.1 HIS.out.symm;rw[aEv hy]at h1;simp at h1;omega
  obtain⟨a4,c4,hs4,hr4⟩:=uW (P:=Tryz.prog) 94 aBX aEh HC3.out (lo:=1) uAu;rw[tS aAW,List.drop_drop]at hs4;have hr4':∀w,(Instr.slice 94 (.slice a3 (qs.length-N) c3) (some (.int .i64 1)) none none).run Tryz.prog w=.ok (.slice a4 (qs.length-N-1) c4) w:=hr4
  have HC4:=iH hs4;have HREST:Hid ((qs.drop (N+1)).map (·.2)=qV L k):=by
   show _=_;obtain⟨y,hy⟩:=pJ.1 HIS.out.symm;have h1:=HDRP.out;rw[aEv hy]at h1;rw[<-List.drop_drop,pK,h1];rfl
  have HQ1:Hid ((qs.map (·.1)).take N=(qs.take N).map (·.1)):=uA.symm;have HQ3:Hid ((qs.map (·.1)).drop (N+1)=(qs.drop (N+1)).map (·.1)):=pK.symm;have HLTT:=iH hlt;clear hs4 hr4 hlt;have HT:Hid ((qs.take N++((b,(k,x))::(qs.drop (N+1)))).length<=60000/\((qs.take N).map (·.1)).length=N/\((qs.drop (N+1)).map (·.1)).length=qs.length-N-1):=by
   show _/\_/\_;have h1:=HNQ.out;have h3:=HLTT.out;exact Aj2
  go_wp2_with fail
  obtain⟨W3,hW3⟩:∃W3,(w2.alloc (.cells #[.pointer (some ⟨b,0,none⟩)] 161)).alloc (.cells #[.slice a1 N c1,.slice (some ⟨w2.heap.size,0,none⟩) 1 1,.slice a4 (qs.length-N-1) c4] 94)=W3:=⟨_,rfl⟩
  obtain⟨hb3,hx3,hy3,hs3⟩:=kF hW3;rw[hW3];refine(aGb W3 (w2.heap.size+1) (.slice a1 N c1) (.slice (some ⟨w2.heap.size,0,none⟩) 1 1) (.slice a4 (qs.length-N-1) c4) ((qs.take N).map (·.1)) [b] ((qs.drop (N+1)).map (·.1)) (aK hy3 rfl) (aK hy3 rfl) (aK hy3 rfl) uHy (aHa hx3) (by rw[HT.out.2.2];exact(by rw[<-HQ3.out];exact((HC4.out.later HBW.out).later hb3).all)) (by have:=HT.out.1;simp at this ⊢;omega) (by rw[aD,aD,bM];omega)).mono ?_;rintro r w5 ⟨g5,c5,hr,ho5,hb5⟩;obtain⟨n5,hn5⟩:∃n5,n5=((qs.take N).map (·.1)++([b]++(qs.drop (N+1)).map (·.1))).length:=⟨_,rfl⟩
  rw[<-hn5]at hr ho5;subst hr;have HN5:=iH hn5;have HO5:=iH ho5;have HB5:=iH (HBW.out.trans ((hb3.trans (hb5.mono uAu)).mono HBW.out.size));have HY5:=iH ((hb5.block _ uMz).trans ((hb3.block _ uMz).trans HYW.out));have HW3:Hid (w.heap.size+2<=W3.heap.size):=(by show _<=_;have:=HSW.out;omega)
  clear hb3 hx3 hy3 hs3 hW3 ho5 hb5 hn5;go_wp2_with (refine bV rfl 96 _ _ rfl (w.heap.size+1) #[.int .u32 0,.slice none 0 0,.slice (some ⟨g5,0,none⟩) n5 c5] rfl rfl 96 _ HY5.out iI rfl uAy ?_;intro w6 h6 k6)
  refine bF (cE rfl _ _ (w.heap.size+1) 96 _ (0,0) _ rfl h6 Tryz.underlying96 rfl iI) rfl ⟨_,rfl,?_,HB5.out.trans (k6.below uAu)⟩;have ho6:=HO5.out;have e:(qs.take N).map (·.1)++([b]++(qs.drop (N+1)).map (·.1))=(qs.take N++((b,(k,x))::(qs.drop (N+1)))).map (·.1):=by rw[bQ,cG];rfl
  have hn5:=HN5.out;rw[e,aH]at hn5;rw[e,hn5]at ho6;rw[hn5];rw[<-aDe (b:=b) (x:=x) HBEL.out HREST.out];have hnode:=aD9 (hs:=hs) (S:=fun g=>S g/\g<w.heap.size) (w:=W3) (w':=w5) (by rw[aD,aL];omega) ho6 (fun q hq=>by
   rcases cP.1 hq with hq|hq
   ·exact(HH4.out q (dI hq)).old.later HB5.out
   ·rcases bA.1 hq with rfl|hq
    ·exact HE.out.old.later HB5.out
    ·exact(HH4.out q (gY hq)).old.later HB5.out)
  have hW3:=HW3.out;exact(hnode.kp (Kp.only k6 (fun h=>by omega))).weak fun g hg=>by
   exact Af6
end Go.Proofs.YtengibnpebfblaaGreatDoor
