import Derived.Test.YthmfgidbcghnfaaGreatDoorQ0
import Derived.Test.YthmfgidbcghnfaaGreatDoorQ38
import Derived.Test.YthmfgidbcghnfaaGreatDoorQ41
set_option maxRecDepth 1000000
set_option maxHeartbeats 8000000
set_option linter.unusedSimpArgs false
namespace Go.Proofs.YthmfgidbcghnfaaGreatDoor
open Go.RowKit
theorem aOG {α β:Type} (h:α->β) (n:Nat) (l:List α) (x:α):(eN n l x).map h=eN n (l.map h) (h x):=by
 unfold eN;rw[bZ,cA,uM,uN]
theorem aJf (xs:List Tr) (x:Tr):tT dW xs x=eN (eX (xs.map kB) (kB x)) xs x:=by
 have e:eX (xs.map kB) (kB x)=(xs.takeWhile fun y=>decide (dW y<dW x)).length:=by
  unfold eX;induction xs with
  |nil=>rfl
  |cons a l ih=>
   rw[cA,dZ,dZ,aB0,aB0];by_cases h:dW a<dW x
   ·rw[if_pos uDu,if_pos uDu,aD,aD]
    simp only[aB0]at ih;rw[<-ih]
   ·rw[if_neg uDu,if_neg uDu]
    rfl
 unfold tT eN;rw[e,aFk,aFm]
theorem aSQ {S:Nat->Prop} (w:World) (a:Tr) (xa:Cel) (ha:fQ a) (km:VAt S w a xa) (yt:Tr) (cy:Cel) (jc:fQ yt) (uf:VAt S w yt cy) (hT:iF w):
  Calls Tryz.prog 200 #[.agg (aL xa),.agg (aL cy)] w fun r w'=>∃y,r=.returned (.tuple #[.agg (aL y),.int .i64 (aBn a yt).2])/\VAt (fun g=>S g\/w.heap.size<=g) w' (aBn a yt).1 y/\Below w.heap.size w w':=by
 obtain⟨w1,ag⟩:∃w1,((w.alloc (.cells (aL xa) 37)).alloc (.cells (aL cy) 37)).alloc (.cells #[.int .i64 0,.int .i64 0,.string ⟨#[]⟩,.pointer none] 37)=w1:=⟨_,rfl⟩
 obtain⟨af,ai,aw,bu,al⟩:=dF ag;have HX1:=iH ai;have bl:=iH aw;have HR1:=iH bu;have HB1:=iH af;have HS1:=iH al;have dh:=iH (fun W=>iQ W xa);rw[km.k]at dh;by_cases h6:a.k=6
 ·rw[h6]at dh
  obtain⟨ba,la,el,Is,gu,rr,Gx,kr,O2,O3,O4,xb,mn,qp,ru,qh⟩:=km.old.parts hO;have px:rr.size=4/\Gx.size=6:=⟨qp.size,ru.size⟩
  have Dy:w1.cell? ⟨w.heap.size,3,none⟩=some (.pointer (some ⟨ba,0,none⟩)):=aG ai (by rw[<-el];rfl);have py:=kW af xb;have xp:=iH (And.intro Dy (vY px.1 px.2 py));have Af:=gD gu;have dx:=ha.len;have wm:=aJ0 ha;have tf:=ha.nodL;have Gy:=jc.dep;have Cb:=jc.nod;have EE:=jc.kB;have A4:=iH (fun W (hb:Below w1.heap.size w1 W)=>tN W yt cy jc (uf.later (tW af hb)));have Ni:=iH (fun W (hb:Below w1.heap.size w1 W)=>aIW W yt cy jc ((uf.later (tW af hb)).weak fun _ _=>trivial) (hT.below (tW af hb)));have ow:=iH (fun W (hb:Below w.heap.size w W)=>aNs W a xa ba ha (km.old.later hb) el 2 0 (kB yt) (by unfold sS;rw[if_neg uAv,if_neg uAv,if_pos rfl,if_pos h6]) hO);have S3:=iH (fun W (hb:Below w.heap.size w W)=>km.later hb);cases hat:atT a 0 (kB yt)with
  |some j=>
   rw[hat]at ow;have e:aBn a yt=(a,0):=by unfold aBn;rw[if_neg hO,show(⟨(dW yt).toArray⟩:ByteArray)=kB yt from rfl,hat]
   rw[e];clear ai aw bu al af ha km jc uf h6 e Is gu xb qp ru qh py Af dx wm tf Gy Cb el mn Dy px hat hT EE A4;go_enter Tryz.func200,Tryz.ntmps200;go_upto_region 1 with fail
   clear ag;go_upto_region 4 with(first
     |(refine aW rfl 37 _ rfl w.heap.size rfl 37 _ _ _ HX1.out Tryz.underlying37 rfl aF ?_)
     |(go_at_call 32;(with_reducible refine(dh.out _).mono ?_);rintro r w2 ⟨rfl,ah⟩;have aq:=iH ah;have HX2:=iH (kW ah HX1.out);have bo:=iH (kW ah bl.out);have gl:=iH (kW ah HR1.out);clear ah)
     |(refine aW rfl 37 _ rfl (w.heap.size+1) rfl 37 _ _ _ bo.out Tryz.underlying37 rfl aF ?_)
     |(go_at_call 30;(with_reducible refine(Ni.out _ aq.out).mono ?_);rintro r w3 ⟨rfl,au⟩;have av:=iH (tW aq.out au);have be:=iH (kW au HX2.out);have dp:=iH (kW au bo.out);have ma:=iH (kW au gl.out);clear au)
     |(refine aV rfl 99 _ _ rfl w3.heap.size #[.int .i64 2,.int .i64 0,.string (kB yt)] rfl rfl 99 _ (aC _ _) dR rfl uAx ?_;intro w4 gn k4))
   have mx:=(Below.newly' w3 (.cells #[.int .i64 0,.int .i64 0,.string ⟨#[]⟩] 99)).trans (k4.below (aA _));have bg:=iH (tW av.out mx);have bw:=iH (kW mx be.out);have gg:=iH (kW mx dp.out);have qk:=iH (kW mx ma.out);obtain⟨P,hP⟩:∃P,P=w3.heap.size:=⟨_,rfl⟩
   have KX:Hid (w1.heap.size<=P):=by show _<=_;rw[hP];exact av.out.size
   rw[<-hP]at gn ⊢;have Ii:=iH gn;have J3:w4.cell? ⟨w.heap.size,3,none⟩=some (.pointer (some ⟨ba,0,none⟩)):=dQ xp.out.1 bg.out;clear gn k4 mx hP HX2 be bo dp gl ma;go_wp2_with (first
    |(refine aW rfl 99 _ rfl P rfl 99 _ _ _ Ii.out Tryz.underlying99 rfl dR ?_)
    |(go_at_call 245;(with_reducible refine(ow.out _ (tW HB1.out bg.out)).mono ?_);rintro r w5 ⟨xo,rfl,ho,ay⟩;have bp:=iH (tW bg.out ay);have fg:=iH (kW ay bw.out);have gk:=iH (kW ay gg.out);have nu:=iH (kW ay qk.out);have rp:=iH (kW ay Ii.out);clear ay ho)
    |(refine aV rfl 37 _ _ rfl w5.heap.size (aL xo) rfl rfl 37 _ (aC _ _) aF rfl (cE xo) ?_;intro w6 h6 k6;have lp:=(Below.newly' w5 (.cells #[.int .i64 0,.int .i64 0,.string ⟨#[]⟩,.pointer none] 37)).trans (k6.below (aA _));have ek:=iH (tW bp.out lp);have HX6:=iH (kW lp fg.out);have pk:=iH (kW lp gk.out);have vk:=iH (kW lp nu.out);have lg:=iH (kW lp rp.out);clear h6 k6 lp)
    |(refine aW rfl 37 _ rfl w.heap.size rfl 37 _ _ _ HX6.out Tryz.underlying37 rfl aF ?_)
    |(refine aV rfl 37 _ _ rfl (w.heap.size+2) (aL xa) rfl rfl 37 _ vk.out aF rfl (cE xa) ?_;intro w7 h7 k7))
   have al:=HS1.out;have af:=HB1.out;exact aN (aR rfl _ _ (w.heap.size+2) 37 _ (0,0) _ rfl h7 Tryz.underlying37 rfl aF) rfl ⟨xa,rfl,((S3.out _ ((tW HB1.out ek.out).trans (k7.below hO))).weak fun _ h=>.inl h),(tW HB1.out ek.out).trans (k7.below hO)⟩
  |none=>
   rw[hat]at ow;obtain⟨n,hn⟩:∃n,n=eX (a.xs.map kB) (kB yt):=⟨_,rfl⟩
   have e:aBn a yt=dY (Tr.nd 6 0 ⟨#[]⟩ [] (eN n a.xs yt)):=by unfold aBn;rw[if_neg hO,show(⟨(dW yt).toArray⟩:ByteArray)=kB yt from rfl,hat,aJf,<-hn]
   rw[e];have dz:=aAi n a.xs yt;have i1:=fM (eN n a.xs yt);have i2:=nT dz;have i3:=pH dz;rw[qW]at i2;rw[sW]at i3;simp only[fP,cU]at i2 i3;have jm:Hid (∀W dt,Below w1.heap.size w1 W->bY (fun _=>True) W 1 dt (iv (tal [yt])) (tal [yt]).length->Calls Tryz.prog 68 #[.agg #[kr,.int .i64 (cU a.xs:Int)],.agg #[dt,.int .i64 ((eW yt:Nat):Int)]] W fun r W'=>∃dn,r=.returned (.agg #[dn,.int .i64 ((cU (eN n a.xs yt):Nat):Int)])/\bY (fun g=>W.heap.size<=g) W' 1 dn (iv (tal (eN n a.xs yt))) (tal (eN n a.xs yt)).length/\Below W.heap.size W W'):=fun W dt hW It=>by
    exact Ac5
   rw[fM]at wm;have re:∀P w4,Below w1.heap.size w1 w4->w4.heap[P]? =some (.cells #[.int .i64 2,.int .i64 0,.string (kB yt)] 99 (0,0))->∀W dn,Below w4.heap.size w4 W->bY (fun g=>w1.heap.size<=g) W 1 dn (iv (tal (eN n a.xs yt))) (tal (eN n a.xs yt)).length->Calls Tryz.prog 196 #[.agg (aL xa),.agg #[dn,.int .i64 ((cU (eN n a.xs yt):Nat):Int)],.func (.func 249) #[] #[.pointer (some ⟨P,0,none⟩),.pointer (some ⟨w.heap.size+1,0,none⟩)]] W fun r W'=>∃y,r=.returned (.tuple #[.agg (aL y),.int .i64 (dY (Tr.nd 6 0 ⟨#[]⟩ [] (eN n a.xs yt))).2])/\VAt (fun g=>((S g/\g<w.heap.size)\/w1.heap.size<=g)\/W.heap.size<=g) W' (dY (Tr.nd 6 0 ⟨#[]⟩ [] (eN n a.xs yt))).1 y/\Below W.heap.size W W':=fun P w4 j0 hP W dn hW M8=>by
    have dy:=af.trans ((tW j0 hW).mono af.size);have O5:=((tW j0 hW).block _ (gZ aw)).trans aw;exact rK (S:=(fun g=>(S g/\g<w.heap.size)\/w1.heap.size<=g)) W xa ba el rr Gx kr (cU a.xs) O2 (kW dy xb) _ ((qp.later dy).weak fun _ h=>.inl h) _ O3 O4 ((ru.later dy).weak fun _ h=>.inl h) mn (tal a.xs) ((qh.later dy).weak fun _ h=>.inl h) 249 #[.pointer (some ⟨P,0,none⟩),.pointer (some ⟨w.heap.size+1,0,none⟩)] (iX Tryz.func249 uAu rfl)
     (Tr.nd 6 0 ⟨#[]⟩ [] (eN n a.xs yt)) (by rw[aMd];omega) (km.k.trans h6) ⟨(km.two ha hO).1,rfl⟩ ⟨(km.two ha hO).2,rfl⟩ (eN n la cy) (aBP ((gu.later dy).weak fun _ h=>.inl h) _ ((uf.old.later dy).weak fun _ h=>.inl h))
     (by
      rw[aMd,aKp,uO];obtain⟨k1,k2,_⟩:=ha.mkeys (.inr h6);rw[aGk (.inr h6)]at hat;have hk:a.k≠4:=by omega
      have rz:∀ks xs,qD a.k ks xs=xs.map kB:=fun ks xs=>by unfold qD;rw[if_neg hO,if_pos h6]
      have Zm:∀ks xs,qD 6 ks xs=xs.map kB:=fun ks xs=>by unfold qD;rw[if_neg hO,if_pos rfl]
      have hM:aA5 (a.xs.map kB):=by rw[rz]at k2;exact k2
      have Kj:(a.xs.map kB).length=la.length:=by rw[rz]at k1;omega
      rw[rz]at hat;have Iu:nR a.k a.ks a.xs la=(a.xs.map kB).zip la:=by rw[nR,rz]
      rw[vW uAv,nR,Zm,aOG,hn,<-aB1 hM Kj hat];rw[vW hk]at qp;rw[Iu]at ru;exact aIl (S:=(fun g=>(S g/\g<w.heap.size)\/w1.heap.size<=g)) (w:=W) 2 0 (kB yt) uAv ((qp.later dy).weak fun _ h=>.inl h) ((ru.later dy).weak fun _ h=>.inl h) mn (nH hM Kj) (by rw[kP];omega) hO (hT.below dy) P (0,0) (kW hW hP) (w.heap.size+1) cy (0,0) O5 px.1 px.2)
     dn (M8.weak fun _ h=>.inr h) uKv uKv
   obtain⟨ns,A5⟩:∃ns,ns=eN n a.xs yt:=⟨_,rfl⟩
   obtain⟨A',F2⟩:∃t,t=(Tr.nd 6 0 ⟨#[]⟩ [] (eN n a.xs yt)):=⟨_,rfl⟩
   rw[<-F2]at re ⊢;rw[<-A5]at re jm;obtain⟨R1,F3⟩:∃t,t=(dY A').1:=⟨_,rfl⟩
   obtain⟨R2,wb⟩:∃t,t=(dY A').2:=⟨_,rfl⟩
   rw[<-F3,<-wb]at re ⊢;have A8:=iH re;clear F2 A5 F3 wb re ai aw bu al af ha km jc uf h6 e Is gu xb qp ru qh py Af dx wm tf Gy Cb el mn Dy px dz i1 i2 i3 hat hn hT EE S3;go_enter Tryz.func200,Tryz.ntmps200;go_upto_region 1 with fail
   clear ag;go_upto_region 4 with(first
     |(refine aW rfl 37 _ rfl w.heap.size rfl 37 _ _ _ HX1.out Tryz.underlying37 rfl aF ?_)
     |(go_at_call 32;(with_reducible refine(dh.out _).mono ?_);rintro r w2 ⟨rfl,ah⟩;have aq:=iH ah;have HX2:=iH (kW ah HX1.out);have bo:=iH (kW ah bl.out);have gl:=iH (kW ah HR1.out);clear ah)
     |(refine aW rfl 37 _ rfl (w.heap.size+1) rfl 37 _ _ _ bo.out Tryz.underlying37 rfl aF ?_)
     |(go_at_call 30;(with_reducible refine(Ni.out _ aq.out).mono ?_);rintro r w3 ⟨rfl,au⟩;have av:=iH (tW aq.out au);have be:=iH (kW au HX2.out);have dp:=iH (kW au bo.out);have ma:=iH (kW au gl.out);clear au)
     |(refine aV rfl 99 _ _ rfl w3.heap.size #[.int .i64 2,.int .i64 0,.string (kB yt)] rfl rfl 99 _ (aC _ _) dR rfl uAx ?_;intro w4 gn k4))
   have mx:=(Below.newly' w3 (.cells #[.int .i64 0,.int .i64 0,.string ⟨#[]⟩] 99)).trans (k4.below (aA _));have bg:=iH (tW av.out mx);have bw:=iH (kW mx be.out);have gg:=iH (kW mx dp.out);have qk:=iH (kW mx ma.out);obtain⟨P,hP⟩:∃P,P=w3.heap.size:=⟨_,rfl⟩
   have KX:Hid (w1.heap.size<=P):=by show _<=_;rw[hP];exact av.out.size
   rw[<-hP]at gn ⊢;have Ii:=iH gn;have J3:w4.cell? ⟨w.heap.size,3,none⟩=some (.pointer (some ⟨ba,0,none⟩)):=dQ xp.out.1 bg.out;clear gn k4 mx hP HX2 be bo dp gl ma;go_upto_region 7 with(first
    |(refine aW rfl 99 _ rfl P rfl 99 _ _ _ Ii.out Tryz.underlying99 rfl dR ?_)
    |(go_at_call 245;(with_reducible refine(ow.out _ (tW HB1.out bg.out)).mono ?_);rintro r w5 ⟨xo,rfl,ho,ay⟩;have bp:=iH (tW bg.out ay);have fg:=iH (kW ay bw.out);have gk:=iH (kW ay gg.out);have nu:=iH (kW ay qk.out);have rp:=iH (kW ay Ii.out);clear ay ho)
    |(refine aV rfl 37 _ _ rfl w5.heap.size (aL xo) rfl rfl 37 _ (aC _ _) aF rfl (cE xo) ?_;intro w6 h6 k6;have lp:=(Below.newly' w5 (.cells #[.int .i64 0,.int .i64 0,.string ⟨#[]⟩,.pointer none] 37)).trans (k6.below (aA _));have ek:=iH (tW bp.out lp);have HX6:=iH (kW lp fg.out);have pk:=iH (kW lp gk.out);have vk:=iH (kW lp nu.out);have lg:=iH (kW lp rp.out);clear h6 k6 lp))
   have gm:=ek;have qi:=iH (A8.out P w6 ek.out lg.out);have Dz:Hid (w6.cell? ⟨w.heap.size,3,none⟩=some (.pointer (some ⟨ba,0,none⟩))/\w6.rangeAt ba 10 [kr,.int .i64 (cU a.xs:Int)]):=⟨dQ xp.out.1 gm.out,fF xp.out.2 gm.out⟩
   clear HX1 bl HR1 bw fg gg gk qk nu Ii rp lg xp A8 ow Ni dh aq av bg bp ek J3;have ar:Hid (∀V,Below w6.heap.size w6 V->V.heap[w.heap.size]? =some (.cells (aL xa) 37 (0,0))/\V.cell? ⟨w.heap.size,3,none⟩=some (.pointer (some ⟨ba,0,none⟩))/\V.rangeAt ba 10 [kr,.int .i64 (cU a.xs:Int)]/\V.heap[w.heap.size+1]? =some (.cells (aL cy) 37 (0,0))):=fun V hV=>⟨kW hV HX6.out,dQ Dz.out.1 hV,fF Dz.out.2 hV,kW hV pk.out⟩
   have HW:Hid (Below w6.heap.size w6 w6.drew):=aY w6;refine bO (S:=(fun V=>V.heap[w.heap.size]? =some (.cells (aL xa) 37 (0,0))/\V.cell? ⟨w.heap.size,3,none⟩=some (.pointer (some ⟨ba,0,none⟩))/\V.rangeAt ba 10 [kr,.int .i64 (cU a.xs:Int)]/\V.heap[w.heap.size+1]? =some (.cells (aL cy) 37 (0,0)))) [13,14] uAu uAw (fun ab=> ?_);refine tyL 0 25 (hy:=aJ uAz 37 _ rfl w.heap.size rfl (aL xa) 37 (0,0) _ (fun w hw=>hw.1) Tryz.underlying37 rfl uCu) (h:=?_);refine tkL 1 26 (h:=?_);(try simp only[pq]);refine tkL 2 27 (h:=?_);refine tkL 3 28 (h:=?_);(try simp only[pq]);refine tkL 4 29 (h:=?_);refine tyL 5 30 (hy:=dX uAz 138 _ rfl ba 10 rfl #[kr,.int .i64 (cU a.xs:Int)] _ (fun w hw=>hw.2.2.1) Tryz.underlying138 rfl uTy) (h:=?_);(try simp only[pq]);refine tyL 6 31 (hy:=aJ uAz 37 _ rfl (w.heap.size+1) rfl (aL cy) 37 (0,0) _ (fun w hw=>hw.2.2.2) Tryz.underlying37 rfl uCu) (h:=?_);refine tkL 9 34 (h:=?_);(try simp only[pq]);refine tkO 7 (some 32) (h:=fun K hK=> ?_);go_simp;go_at_call 69;(with_reducible refine(A4.out _ uFw).mono ?_);rintro r wA ⟨dt,rfl,hd,hb⟩;have D0:=iH hd;replace HW:=iH (tW HW.out hb);clear hb hd;dsimp only;refine hK.out _ _ uAw (fun ab=> ?_);clear hK K;(try simp only[pq]);refine tkO 8 (some 33) (h:=fun K hK=> ?_);go_simp;go_at_call 68;(with_reducible refine(jm.out _ dt uFw uGz).mono ?_);rintro r wB ⟨dn,rfl,hd,hb⟩;have G0:=iH hd;have zq:=iH HW.out.size;replace HW:=iH (tW HW.out hb);clear hb hd;dsimp only;refine hK.out _ _ uAw (fun ab=> ?_);clear hK K;(try simp only[pq]);refine tkO 10 (some 35) (h:=fun K hK=> ?_);have A7:Hid (w1.heap.size<=wB.heap.size):=aI gm.out.size HW.out.size;go_simp;go_at_call 196
   (with_reducible refine(qi.out _ dn uBx uEv).mono ?_);rintro r wC ⟨y,rfl,hy,hb⟩;have Iv:=iH hy;replace HW:=iH (tW HW.out hb);clear hb hy;dsimp only;refine hK.out _ _ uAw (fun ab=> ?_);clear hK K;(try simp only[pq]);refine tkL 11 36 (h:=?_);refine tkL 12 37 (h:=?_);(try simp only[pq]);refine tkU 13 none (h:=fun K hK=> ?_);refine eC 37 _ _ rfl (w.heap.size+2) (aL y) rfl rfl 37 _ ((HW.out.block _ (by exact(gZ vk.out))).trans vk.out) aF rfl (cE y) ?_;intro w8 h8 k8;refine hK.out _ _ ?_;clear hK K;(try simp only[pq]);refine tkU 14 (some 5) (h:=fun K hK=> ?_);go_simp;refine hK.out _ _ ?_;clear hK K;(try simp only[pq]);refine bJ uAu ?_ _;clear ab;go_wp2_with fail
   have al:=HS1.out;have hl:=gm.out.size;have lh:=HW.out.size;refine aN (aR rfl _ _ (w.heap.size+2) 37 _ (0,0) _ rfl h8 Tryz.underlying37 rfl aF) rfl ⟨y,rfl,(Iv.out.imp (Kq.only k8 ?_) ?_),(HB1.out.trans ((tW gm.out HW.out).mono HB1.out.size)).trans (k8.below hO)⟩
   ·exact fun h=>by have:=A7.out;rcases h with(h|h)|h<;>omega
   ·exact Ad2
 ·have e:aBn a yt=(jH,3):=by unfold aBn;rw[if_pos h6]
  rw[e];clear ai aw bu al af ha km jc uf e hT;go_enter Tryz.func200,Tryz.ntmps200;go_upto_region 1 with fail
  clear ag;go_wp2_with (first
   |(refine aW rfl 37 _ rfl w.heap.size rfl 37 _ _ _ HX1.out Tryz.underlying37 rfl aF ?_)
   |(go_at_call 32;(with_reducible refine(dh.out _).mono ?_);rintro r w2 ⟨rfl,ah⟩;have aq:=iH ah;have HX2:=iH (kW ah HX1.out);have bo:=iH (kW ah bl.out);have gl:=iH (kW ah HR1.out);clear ah)
   |(refine aV rfl 37 _ _ rfl (w.heap.size+2) #[.int .i64 0,.int .i64 0,.string ⟨#[]⟩,.pointer none] rfl rfl 37 _ gl.out aF rfl uAx ?_;intro w5 h5 k5))
  exact Af1
theorem aKI:(Tryz.prog.info? 3).map (·.size)=some 1:=by kernel_rfl
theorem aT5:(Tryz.prog.info? 78).map (·.size)=some 3:=by kernel_rfl
theorem gn0 {A B C:World} {X rb:Nat} (h:A.grownBy B (some rb)) (k:iL X B C) (hX:A.heap.size<=X):A.grownBy C (some rb):=
 ⟨k.by_.os.trans h.os,k.by_.tape.trans h.tape,k.by_.output.trans h.output,aI h.size k.by_.size,fun i hi bn=>(k.by_.block i (bK hi h.size) uCy).trans (h.block i hi bn)⟩
theorem gs0 {A B C:World} {rb:Nat} {row:Option Nat} (h:A.grownBy B (some rb)) (k:B.grownBy C row) (hX:∀X,row=some X->A.heap.size<=X):A.grownBy C (some rb):=
 ⟨k.os.trans h.os,k.tape.trans h.tape,k.output.trans h.output,aI h.size k.size,fun i hi bn=>(k.block i (bK hi h.size) (fun e=>by have:=hX i e.symm;omega)).trans (h.block i hi bn)⟩
theorem aIe (S:Nat->Prop) (W:World) (s:Nat):bY S W s (.slice none 0 0) [] 0:=⟨none,0,rfl,aA _,by simp,.inl ⟨rfl,rfl⟩⟩
theorem aNr (k n:Int) (t:ByteArray) (hk:k=4\/k=5\/k=6) (w:World) (b:Nat) (mc:Array Value) (d:Value) (kv xv:Value) (hb:w.heap[b]? =some (.cells (jQ oA mc d 0) 140 (0,0))) (Fa:mc.size=6):
  Calls Tryz.prog 71 #[.pointer (some ⟨b,0,none⟩),.agg (trC k n t kv xv),(.slice none 0 0)] w fun e w'=>e=.returned (.tuple #[])/\∃rc,cW (fun g=>w.heap.size<=g) w' rc []/\w'.heap[b]? =some (.cells (jQ rc mc d 0) 140 (0,0))/\w.grownBy w' (some b):=by
 obtain⟨w1,ag⟩:∃w1,w.alloc (.cells (trC k n t kv xv) 28)=w1:=⟨_,rfl⟩
 obtain⟨af,ai,al⟩:=fH ag;have bf:=(gZ hb)
 have av:=iH ((af.block _ bf).trans hb);have HB1:=iH af;have jt:=iH bf;have HZ:=iH Fa;have c0:w1.cell? ⟨w.heap.size,0,none⟩=some (.int .i64 k):=aG ai rfl;have Nj:=iH (rp_Of w1 (.slice none 0 0) [] (aIe (fun _=>True) w1 4) uAv);clear hb ai al Fa af bf;by_cases h4:k=4
 ·subst h4
  go_enter Tryz.func71,Tryz.ntmps71;go_upto_region 1 with fail
  clear ag;go_wp2_with (first
   |(go_at_call 114;(with_reducible refine Nj.out.mono ?_);rintro e w3 ⟨c,rfl,hr,au⟩;have HR:=iH hr;have L1:=iH au;have be:=iH (kW au av.out);clear hr au)
   |(refine aBY rfl 127 _ _ rfl b 0 c rfl rfl 140 _ be.out (by rw[cW.size HR.out];exact dM) (by rw[nU rfl HZ.out,cW.size HR.out];decide) (cW.one HR.out) _ (aG2 rfl (cW.size HR.out) _ _) ?_;intro w5 h5 k5))
  refine aN (pQ rfl _ _ _) rfl ⟨rfl,c,(HR.out.imp (Kq.only k5 ?_) ?_),h5,?_⟩
  ·have:=jt.out
   have:=HB1.out.size;intro(h:w1.heap.size<=b);omega
  ·intro g (h:w1.heap.size<=g) _
   have:=HB1.out.size;show w.heap.size<=g;omega
  ·exact jI (mI (tW HB1.out L1.out) _) k5.by_
 ·have e4:(k==4)=false:=aE.2 h4
  clear hk h4;go_enter Tryz.func71,Tryz.ntmps71;go_upto_region 1 with fail
  clear ag;go_wp2_with fail
  go_loopw [18] (fun i W=>i=.int .i64 0/\W=w1) (fun _ _=>0)
  case atStart=>exact⟨rfl,rfl⟩
  case round=>
   obtain⟨rfl,rfl⟩:=hrel;go_wp2_with fail
   go_end0;exact⟨rfl,oA,.inl ⟨rfl,rfl⟩,av.out,mI HB1.out _⟩
theorem aSM (k n:Int) (t:ByteArray) (w:World) (rb s:Nat) (bb:Int) (hv:TrV w (.nd k n t [] []) (.agg (trC k n t (.slice none 0 0) (.slice none 0 0)))) (di:aAm (.nd k n t [] [])=0) (we:w.heap[rb]? =some (.cells #[.int .u64 (s:Int),.int .i64 bb,.int .i64 0] 78 (0,0))) (hs:s<18446744073709551616):Calls Tryz.prog 41 #[.pointer (some ⟨rb,0,none⟩),.agg (trC k n t (.slice none 0 0) (.slice none 0 0)),.int .i64 1] w (fun e w'=>∃y,e=.returned (.tuple #[.agg (aL y),.int .i64 0])/\VAt (fun g=>w.heap.size<=g) w' (.nd k n t [] []) y/\w.grownBy w' (some rb)):=by
 have eo:=(gZ we)
 have Dh:aIE w rb:=⟨_,_,_,_,_,_,_,_,we⟩
 have Zn:=fun V (hg:w.grownBy V (some rb))=>aDF (.nd k n t [] []) _ V (hv.but hg Dh) (aS _)
 have Zo:=di;rw[di]at Zn;have Mu:=iH Zn;have jm:=iH (fun W=>aBN k n t (.slice none 0 0) (.slice none 0 0) W);obtain⟨w1,ag⟩:∃w1,(w.alloc (.cells (trC k n t (.slice none 0 0) (.slice none 0 0)) 28)).alloc (.cells #[.int .i64 0,.int .i64 0,.string ⟨#[]⟩,.pointer none] 37)=w1:=⟨_,rfl⟩
 obtain⟨af,ai,bu,al⟩:=fL ag;have HX1:=iH ai;have HR1:=iH bu;have HRB1:=iH ((af.block _ eo).trans we);have HB1:=iH af;have HS1:Hid (w1.heap.size=w.heap.size+2):=al;have HRL:=iH eo;have crb:=aG HRB1.out (j:=2) (v:=.int .i64 0) rfl;clear eo we Dh Zn di af ai bu al;by_cases h3:k<=3
 ·have h34:k<4:=by omega
  clear hv hs Zo;go_enter Tryz.func41,Tryz.ntmps41;go_upto_region 1 with fail
  clear ag;go_wp2_with (first
   |(refine lP rfl 3 _ _ rfl rb 2 _ rfl rfl rfl 78 _ HRB1.out aKI (show 2<3 by omega) ?_;intro w2 h2 k2;have HX2:=iH (k2.other HX1.out (fun e=>by have h:=HRL.out;omega));have gl:=iH (k2.other HR1.out (fun e=>by have h:=HRL.out;omega));have js:=iH h2;have HG2:=iH (jI (mI HB1.out (some rb)) k2.by_);have HS2:Hid (w2.heap.size=w.heap.size+2):=k2.size.trans HS1.out;have crb:=aG js.out (j:=2) (v:=.int .i64 1) rfl;clear h2 k2)
   |(refine aW rfl 28 _ rfl w.heap.size rfl 28 _ _ _ HX2.out Tryz.underlying28 rfl oC ?_)
   |(go_at_call 66;(with_reducible refine(Mu.out _ HG2.out).mono ?_);rintro e w3 ⟨rfl,au⟩;have be:=iH (kW au HX2.out);have ma:=iH (kW au gl.out);have C9:=iH (kW au js.out);have je:=iH (jI HG2.out (mI au _));have cd:Hid (w.heap.size+2<=w3.heap.size):=aI (jU HS2.out.symm) au.size;have J6:=aG be.out (j:=0) (v:=.int .i64 k) rfl;have EF:=aG be.out (j:=4) (v:=(.slice none 0 0)) rfl;clear au)
   |(refine aW rfl 28 _ rfl w.heap.size rfl 28 _ _ _ be.out Tryz.underlying28 rfl oC ?_)
   |(go_at_call 67;(with_reducible refine(jm.out _).mono ?_);rintro e w4 ⟨rfl,bh⟩;have qk:=iH (kW bh ma.out);have qf:=iH (jI je.out (mI bh _));clear bh)
   |(refine aV rfl 37 _ _ rfl (w.heap.size+1) (aL ⟨k,n,t,none⟩) rfl rfl 37 _ qk.out aF rfl (cE _) ?_;intro w9 h9 k9))
  have eo:=HRL.out;exact aN (aR rfl _ _ (w.heap.size+1) 37 _ (0,0) _ rfl h9 Tryz.underlying37 rfl aF) rfl ⟨⟨k,n,t,none⟩,rfl,aNu _ _ (a:=.nd k n t [] []) h3,gn0 qf.out k9 hO⟩
 have hk:k=4\/k=5\/k=6:=by
  have h:=aAl.1 Zo;simp only[Tr.k,Tr.n,Tr.t,Tr.ks,Tr.xs]at h;rcases h with h|⟨_,_,h|h|h⟩<;>omega
 have h34:¬k<4:=by omega
 have HS:=iH hs;clear hv hs h3 Zo;go_enter Tryz.func41,Tryz.ntmps41;go_upto_region 1 with fail
 clear ag;go_upto_region 12 with(first
|(refine lP rfl 3 _ _ rfl rb 2 _ rfl rfl rfl 78 _ HRB1.out aKI (show 2<3 by omega) ?_;intro w2 h2 k2;have HX2:=iH (k2.other HX1.out (fun e=>by have h:=HRL.out;omega));have gl:=iH (k2.other HR1.out (fun e=>by have h:=HRL.out;omega));have js:=iH h2;have HG2:=iH (jI (mI HB1.out (some rb)) k2.by_);have HS2:Hid (w2.heap.size=w.heap.size+2):=k2.size.trans HS1.out;have crb:=aG js.out (j:=2) (v:=.int .i64 1) rfl;clear h2 k2)
|(refine aW rfl 28 _ rfl w.heap.size rfl 28 _ _ _ HX2.out Tryz.underlying28 rfl oC ?_)
|(go_at_call 66;(with_reducible refine(Mu.out _ HG2.out).mono ?_);rintro e w3 ⟨rfl,au⟩;have be:=iH (kW au HX2.out);have ma:=iH (kW au gl.out);have C9:=iH (kW au js.out);have je:=iH (jI HG2.out (mI au _));have cd:Hid (w.heap.size+2<=w3.heap.size):=aI (jU HS2.out.symm) au.size;have J6:=aG be.out (j:=0) (v:=.int .i64 k) rfl;have EF:=aG be.out (j:=4) (v:=(.slice none 0 0)) rfl;clear au))
 go_upto_region 13 with fail
 obtain⟨C0,F4⟩:∃C0,C0=w3.heap.size:=⟨_,rfl⟩
 obtain⟨w4,j0⟩:∃w4,w4=w3.alloc (.cells #[(.slice none 0 0),.int .i64 0] 138):=⟨_,rfl⟩
 have bh:Below w3.heap.size w3 w4:=by rw[j0];exact Below.newly' _ _
 have tg:w4.heap[C0]? =some (.cells #[(.slice none 0 0),.int .i64 0] 138 (0,0)):=by rw[j0,F4];exact aC _ _
 have vj:=iH tg;have bw:=iH (kW bh be.out);have qk:=iH (kW bh ma.out);have Ix:=iH (kW bh C9.out);have qf:=iH (jI je.out (mI bh _));have Zp:Hid (w.heap.size+2<=C0/\C0<w4.heap.size):=⟨by rw[F4];exact cd.out,(gZ tg)⟩
 have KY:=aG bw.out (j:=4) (v:=(.slice none 0 0)) rfl;rw[<-j0,<-F4];clear j0 F4 bh tg J6 EF crb HX1 HX2 be HR1 gl ma HRB1 js C9 HG2 je HB1 HS2 cd h34 Mu;go_wp2_with fail
 clear KY;go_loopw [9,47] (fun l i W=>l=(.slice none 0 0)/\i=.int .i64 0/\W=w4) (fun _ _ _=>0)
 case atStart=>exact⟨rfl,rfl,rfl⟩
 case round=>
  obtain⟨rfl,rfl,rfl⟩:=hrel;have Jn:wr.rangeAt rb 0 [.int .u64 (s:Int),.int .i64 bb]:=by
   intro j' u hu
   match j',hu with
   |0,hu=>exact aG Ix.out hu
   |1,hu=>exact aG Ix.out hu
   |k+2,hu=>simp at hu
  have Zq:=iH Jn;have tr:=iH (fun W=>aTA W s bb (fun _=>False));clear Jn;go_upto_region 22 with fail
  have ar:Hid (∀V,Below wr.heap.size wr V->V.heap[C0]? =some (.cells #[(.slice none 0 0),.int .i64 0] 138 (0,0))/\V.rangeAt rb 0 [.int .u64 (s:Int),.int .i64 bb]):=fun V hV=>⟨(kW hV vj.out),nJ Zq.out hV⟩
  have HW:Hid (Below wr.heap.size wr wr.drew):=aY wr;refine bO (S:=(fun V=>V.heap[C0]? =some (.cells #[(.slice none 0 0),.int .i64 0] 138 (0,0))/\V.rangeAt rb 0 [.int .u64 (s:Int),.int .i64 bb])) [7,8] uAu uAw (fun ab=> ?_);refine tkL 0 72 (h:=?_);refine tkL 1 73 (h:=?_);(try simp only[pq]);refine tkL 2 74 (h:=?_);refine tyL 3 75 (hy:=dX uAz 24 _ rfl rb 0 rfl #[.int .u64 (s:Int),.int .i64 bb] _ (fun w hw=>hw.2) Tryz.underlying24 rfl (by exact gQ)) (h:=?_);(try simp only[pq]);refine tyL 5 77 (hy:=aJ uAz 138 _ rfl C0 rfl #[(.slice none 0 0),.int .i64 0] 138 (0,0) _ (fun w hw=>hw.1) Tryz.underlying138 rfl uTy) (h:=?_);(try simp only[pq]);refine tkO 4 (some 76) (h:=fun K hK=> ?_);go_simp;go_at_call 70;(with_reducible refine(tr.out _).mono ?_);rintro r wA ⟨mc,rfl,hm,hb⟩;obtain⟨q1,q2,q3,q4,q5,q6,q7,rfl,_⟩:=id hm;have HM:=iH hm;replace HW:=iH (tW HW.out hb);clear hb hm;dsimp only;refine hK.out _ _ uAw (fun ab=> ?_);clear hK K;(try simp only[pq]);refine tkL 6 78 (h:=?_);(try simp only[pq]);refine tkU 7 (some 79) (h:=fun K hK=> ?_);go_simp;refine hK.out _ _ ?_;clear hK K;(try simp only[pq]);refine tkU 8 (some 15) (h:=fun K hK=> ?_);go_simp;refine hK.out _ _ ?_;clear hK K;(try simp only[pq]);refine bJ uAu ?_ _;clear ab;go_upto_region 23 with fail
  obtain⟨b,hb⟩:∃b,b=wA.heap.size:=⟨_,rfl⟩
  obtain⟨wB,S4⟩:∃wB,wB=wA.alloc (.cells #[.int .i64 0,.int .i64 0,.slice none 0 0,.slice none 0 0,.int .u64 (s:Int),.int .i64 bb,.int .i64 0,.int .u32 (q1:Int),.slice q2 q3 q4,.slice q5 q6 q7,(.slice none 0 0),.int .i64 0] 140):=⟨_,rfl⟩
  have Od:wB.heap[b]? =some (.cells (jQ oA #[.int .u64 (s:Int),.int .i64 bb,.int .i64 0,.int .u32 (q1:Int),.slice q2 q3 q4,.slice q5 q6 q7] (.slice none 0 0) 0) 140 (0,0)):=by rw[S4,hb];exact aC _ _
  have Zr:Below wA.heap.size wA wB:=by rw[S4];exact Below.newly' _ _
  have O7:Below wr.heap.size wr wB:=tW HW.out Zr;have Rr:=HW.out.size;have Eo:=Zp.out;have G7:=iH (kW O7 bw.out);have js:=iH (kW O7 qk.out);have j8:Hid (C0<b/\wr.heap.size<=b/\b<wB.heap.size/\wr.heap.size<=wB.heap.size/\w.heap.size+2<=wr.heap.size/\w.heap.size+2<=b):=⟨by omega,by omega,(gZ Od),O7.size,by omega,by omega⟩
  have S5:=iH (jI qf.out (mI O7 (some rb)));have Hz:Hid (fG (fun _=>False) wB s bb [] #[.int .u64 (s:Int),.int .i64 bb,.int .i64 0,.int .u32 (q1:Int),.slice q2 q3 q4,.slice q5 q6 q7]):=HM.out.imp (Kq.kp fun g o hg _=>hg.elim) fun g h _=>h.elim
  have S3:Hid (∀W fc,cW (fun g=>wB.heap.size<=g) W fc []->W.heap[b]? =some (.cells (jQ fc #[.int .u64 (s:Int),.int .i64 bb,.int .i64 0,.int .u32 (q1:Int),.slice q2 q3 q4,.slice q5 q6 q7] (.slice none 0 0) 0) 140 (0,0))->VAt (fun g=>C0<g) W (.nd k n t [] []) ⟨k,n,t,some ⟨b,0,none⟩⟩):=fun W fc h1 h2=>
   aE6 (a:=.nd k n t [] []) (l:=[]) (by show(4:Int)<=k;omega) (by have:=j8.out;show C0<b;omega) (by show iN _ _ [] [];rw[iN]) ⟨fc,#[.int .u64 (s:Int),.int .i64 bb,.int .i64 0,.int .u32 (q1:Int),.slice q2 q3 q4,.slice q5 q6 q7],(.slice none 0 0),(0,0),s,bb,h2,HS.out,by
    have e:sP k []=[]:=by unfold sP;split<;>rfl
    show cW _ _ fc (sP k []);rw[e];exact h1.weak fun g h=>by have:=j8.out;omega,by
    have e:nR k [] [] []=[]:=by unfold nR;rw[List.zip_nil_right]
    show fG _ _ _ _ (nR k [] [] []) _;rw[e];exact Hz.out.imp (Kq.kp fun g o hg _=>hg.elim) fun g h _=>h.elim,aIe _ _ _⟩
  have EG:=iH (aNr k n t hk wB b #[.int .u64 (s:Int),.int .i64 bb,.int .i64 0,.int .u32 (q1:Int),.slice q2 q3 q4,.slice q5 q6 q7] (.slice none 0 0) (.slice none 0 0) (.slice none 0 0) Od rfl);rw[<-S4,<-hb];by_cases h6:k=6
  ·have e6:(k==6)=true:=eK.2 h6
   clear hb S4 Od Zr O7 Rr Eo ar HW tr bw qk vj Ix h6 hk;go_wp2_with (first
   |(refine aW rfl 28 _ rfl w.heap.size rfl 28 _ _ _ G7.out Tryz.underlying28 rfl oC ?_)
   |(go_at_call 71;(with_reducible refine EG.out.mono ?_);rintro e wC ⟨rfl,fc,S6,Oo,Da⟩;have Ma:=iH S6;have Db:=iH Oo;have S7:=iH Da;have Kv:=iH ((Da.block _ (gZ G7.out) (fun e=>by have h:=j8.out;have:=aH e;omega)).trans G7.out);have KZ:=aG Kv.out (j:=0) (v:=.int .i64 k) rfl;have Nk:=iH ((Da.block _ (gZ js.out) (fun e=>by have h:=j8.out;have:=aH e;omega)).trans js.out);have EH:Hid (fG (fun _=>False) wC s bb [] #[.int .u64 (s:Int),.int .i64 bb,.int .i64 0,.int .u32 (q1:Int),.slice q2 q3 q4,.slice q5 q6 q7]):=Hz.out.imp (Kq.kp fun g o hg _=>hg.elim) fun g h _=>h.elim;clear S6 Oo Da)
   |(refine ld_at uAz 136 _ rfl b 4 rfl #[.int .u64 (s:Int),.int .i64 bb,.int .i64 0,.int .u32 (q1:Int),.slice q2 q3 q4,.slice q5 q6 q7] _ (sR (cW.size Ma.out) Hz.out.size Db.out) Tryz.underlying136 rfl (by rw[Hz.out.size];exact gP) ?_)
   |(go_at_call 64;(with_reducible refine(aOz _ EH.out).mono ?_);rintro e wL ⟨rfl,Vo⟩;have jt:=iH Vo;have x7:=iH (kW Vo Kv.out);have Zs:=iH (kW Vo Nk.out);clear Vo)
   |(refine aW rfl 28 _ rfl w.heap.size rfl 28 _ _ _ x7.out Tryz.underlying28 rfl oC ?_)
   |(go_at_call 67;(with_reducible refine(jm.out _).mono ?_);rintro e wD ⟨rfl,Nl⟩;have ft:=iH (kW Nl Zs.out);have Nm:=iH Nl;clear Nl)
   |(refine aV rfl 37 _ _ rfl (w.heap.size+1) (aL ⟨k,n,t,some ⟨b,0,none⟩⟩) rfl rfl 37 _ ft.out aF rfl (cE _) ?_;intro w9 h9 k9))
   have kh:=j8.out;have Eo:=Zp.out;have LA:=S7.out.size;have km:=S3.out wC fc Ma.out Db.out;have Da:w.grownBy wC (some rb):=gs0 S5.out S7.out fun X e=>by have:=aH e;omega
   exact aN (aR rfl _ _ (w.heap.size+1) 37 _ (0,0) _ rfl h9 Tryz.underlying37 rfl aF) rfl ⟨⟨k,n,t,some ⟨b,0,none⟩⟩,rfl,((km.later (tW jt.out Nm.out)).imp (Kq.only k9 hO) fun g h _=>h).weak (fun g h=>by omega),gn0 (jI Da (mI (tW jt.out Nm.out) _)) k9 hO⟩
  ·have e6:(k==6)=false:=aE.2 h6
   clear hb S4 Od Zr O7 Rr Eo ar HW tr bw qk vj Ix h6 hk;go_wp2_with (first
   |(refine aW rfl 28 _ rfl w.heap.size rfl 28 _ _ _ G7.out Tryz.underlying28 rfl oC ?_)
   |(go_at_call 71;(with_reducible refine EG.out.mono ?_);rintro e wC ⟨rfl,fc,S6,Oo,Da⟩;have Ma:=iH S6;have Db:=iH Oo;have S7:=iH Da;have Kv:=iH ((Da.block _ (gZ G7.out) (fun e=>by have h:=j8.out;have:=aH e;omega)).trans G7.out);have KZ:=aG Kv.out (j:=0) (v:=.int .i64 k) rfl;have Nk:=iH ((Da.block _ (gZ js.out) (fun e=>by have h:=j8.out;have:=aH e;omega)).trans js.out);have EH:Hid (fG (fun _=>False) wC s bb [] #[.int .u64 (s:Int),.int .i64 bb,.int .i64 0,.int .u32 (q1:Int),.slice q2 q3 q4,.slice q5 q6 q7]):=Hz.out.imp (Kq.kp fun g o hg _=>hg.elim) fun g h _=>h.elim;clear S6 Oo Da)
   |(refine aW rfl 28 _ rfl w.heap.size rfl 28 _ _ _ Kv.out Tryz.underlying28 rfl oC ?_)
   |(go_at_call 67;(with_reducible refine(jm.out _).mono ?_);rintro e wD ⟨rfl,Nl⟩;have ft:=iH (kW Nl Nk.out);have Nm:=iH Nl;clear Nl)
   |(refine aV rfl 37 _ _ rfl (w.heap.size+1) (aL ⟨k,n,t,some ⟨b,0,none⟩⟩) rfl rfl 37 _ ft.out aF rfl (cE _) ?_;intro w9 h9 k9))
   have kh:=j8.out;have Eo:=Zp.out;have LA:=S7.out.size;have km:=S3.out wC fc Ma.out Db.out;have Da:w.grownBy wC (some rb):=gs0 S5.out S7.out fun X e=>by have:=aH e;omega
   exact aN (aR rfl _ _ (w.heap.size+1) 37 _ (0,0) _ rfl h9 Tryz.underlying37 rfl aF) rfl ⟨⟨k,n,t,some ⟨b,0,none⟩⟩,rfl,((km.later Nm.out).imp (Kq.only k9 hO) fun g h _=>h).weak (fun g h=>by omega),gn0 (jI Da (mI Nm.out _)) k9 hO⟩
theorem aSO (k n:Int) (t:ByteArray) (w:World) (s:Nat) (bb:Int) (hv:TrV w (.nd k n t [] []) (.agg (trC k n t (.slice none 0 0) (.slice none 0 0)))) (di:aAm (.nd k n t [] [])=0) (hs:s<18446744073709551616):
  Calls Tryz.prog 16 #[.agg #[.int .u64 (s:Int),.int .i64 bb],.agg (trC k n t (.slice none 0 0) (.slice none 0 0))] w fun e w'=>∃y,e=.returned (.tuple #[.agg (aL y),.int .i64 0])/\VAt (fun g=>w.heap.size<=g) w' (.nd k n t [] []) y/\Below w.heap.size w w':=by
 obtain⟨w1,ag⟩:∃w1,((w.alloc (.cells #[.int .u64 (s:Int),.int .i64 bb] 24)).alloc (.cells (trC k n t (.slice none 0 0) (.slice none 0 0)) 28)).alloc (.cells #[.int .i64 0,.int .i64 0,.string ⟨#[]⟩,.pointer none] 37)=w1:=⟨_,rfl⟩
 obtain⟨af,dr,ai,bu,al⟩:=aBU ag;have W8:Hid (∀V,Below w1.heap.size w1 V->V.heap[w1.heap.size]? =some (.cells #[.int .u64 (s:Int),.int .i64 bb,.int .i64 0] 78 (0,0))->Calls Tryz.prog 41 #[.pointer (some ⟨w1.heap.size,0,none⟩),.agg (trC k n t (.slice none 0 0) (.slice none 0 0)),.int .i64 1] V fun e w'=>∃y,e=.returned (.tuple #[.agg (aL y),.int .i64 0])/\VAt (fun g=>V.heap.size<=g) w' (.nd k n t [] []) y/\V.grownBy w' (some w1.heap.size)):=fun V hV hr=>aSM k n t V w1.heap.size s bb (hv.later (tW af hV)) di hr hs
 have bd:=iH dr;have HX1:=iH ai;have HR1:=iH bu;have HB1:=iH af;have HS1:Hid (w1.heap.size=w.heap.size+3):=al;clear dr ai bu af al hv di hs;go_enter Tryz.func16,Tryz.ntmps16;go_upto_region 1 with fail
 clear ag;go_wp2_with (first
  |(refine aW rfl 24 _ rfl w.heap.size rfl 24 _ _ _ bd.out Tryz.underlying24 rfl gQ ?_)
  |(refine aV rfl 78 _ _ rfl w1.heap.size #[.int .u64 (s:Int),.int .i64 bb,.int .i64 0] rfl rfl 78 #[.int .u64 0,.int .i64 0,.int .i64 0] (aC _ _) aT5 rfl uAx ?_;intro w2 h2 k2;have ah:Below w1.heap.size w1 w2:=(Below.newly' _ _).trans (k2.below (aA _));have HX2:=iH (kW ah HX1.out);have gl:=iH (kW ah HR1.out);have aq:=iH ah;have El:=iH h2;clear h2 k2 ah)
  |(refine aW rfl 28 _ rfl (w.heap.size+1) rfl 28 _ _ _ HX2.out Tryz.underlying28 rfl oC ?_)
  |(go_at_call 41;(with_reducible refine(W8.out _ aq.out El.out).mono ?_);rintro e w3 ⟨y,rfl,hy,hg⟩;have ma:=iH ((hg.block _ (gZ gl.out) (fun e=>by have:=aH e;have:=HS1.out;omega)).trans gl.out);have HY:=iH hy;have HG:=iH hg;clear hy hg)
  |(refine aV rfl 37 _ _ rfl (w.heap.size+2) (aL y) rfl rfl 37 _ ma.out aF rfl (cE y) ?_;intro w9 h9 k9))
 have al:=HS1.out;have de:=aq.out.size;have au:Below w.heap.size w w3:=(tW HB1.out aq.out).grown HG.out (by have:=HB1.out.size;omega) fun k e=>by have:=aH e;omega
 exact aN (aR rfl _ _ (w.heap.size+2) 37 _ (0,0) _ rfl h9 Tryz.underlying37 rfl aF) rfl ⟨y,rfl,(HY.out.imp (Kq.only k9 hO) fun g h _=>by omega),au.trans (k9.below hO)⟩
end Go.Proofs.YthmfgidbcghnfaaGreatDoor
