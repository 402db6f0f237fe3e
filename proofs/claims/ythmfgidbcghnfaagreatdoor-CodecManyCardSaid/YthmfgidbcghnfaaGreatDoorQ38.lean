import Derived.Test.YthmfgidbcghnfaaGreatDoorQ0
import Derived.Test.YthmfgidbcghnfaaGreatDoorQ35
set_option maxRecDepth 1000000
set_option maxHeartbeats 8000000
set_option linter.unusedSimpArgs false
namespace Go.Proofs.YthmfgidbcghnfaaGreatDoor
open Go.RowKit
theorem aNW {α:Type} {l:List α} {j:Nat} (h:j<l.length) (y:α):(l.eraseIdx j++[y]).Perm (l.set j y):=by
 rw[aNg,List.set_eq_take_append_cons_drop,if_pos h];refine List.perm_append_comm.trans ?_;rw[nY];exact nB.symm
theorem aAi {α:Type} (n:Nat) (l:List α) (y:α):(l++[y]).Perm (eN n l y):=(List.perm_append_comm.trans (by rw[nY])).trans (aAj n l y).symm
theorem aNv {S:Nat->Prop} {W:World} {xs:List Tr} {l:List Cel} (h:iN S W xs l) (j:Nat) {y:Tr} {c:Cel} (hy:VAt S W y c):iN S W (xs.set j y) (l.set j c):=by
 have hl:=gD h;refine wU (by rw[fD,fD,hl]) fun k hk jx=> ?_
 rw[fD]at hk jx;rw[List.getElem_set,List.getElem_set];split
 ·exact hy
 ·exact tO h hk jx
theorem aLw {S:Nat->Prop} {W:World} {xs:List Tr} {l:List Cel} (h:iN S W xs l) (n:Nat):iN S W (xs.take n) (l.take n):=by
 have hl:=gD h;refine wU (by rw[bQ,bQ,hl]) fun k hk jx=> ?_
 rw[aLn,aLn];exact tO h _ _
theorem aLx {S:Nat->Prop} {W:World} {xs:List Tr} {l:List Cel} (h:iN S W xs l) (n:Nat):iN S W (xs.drop n) (l.drop n):=by
 have hl:=gD h;refine wU (by rw[cG,cG,hl]) fun k hk jx=> ?_
 rw[aLo,aLo];exact tO h _ _
theorem aBP {S:Nat->Prop} {W:World} {xs:List Tr} {l:List Cel} (h:iN S W xs l) (n:Nat) {y:Tr} {c:Cel} (hy:VAt S W y c):iN S W (eN n xs y) (eN n l c):=by
 unfold eN;have h1:iN S W (y::xs.drop n) (c::l.drop n):=by rw[iN];exact⟨c,_,rfl,hy,aLx h n⟩
 exact aGJ (aLw h n) h1
theorem aSN {S:Nat->Prop} (w:World) (a:Tr) (xa:Cel) (ha:fQ a) (km:VAt S w a xa) (s i:Int) (u:ByteArray) (hu:u.size<=9223372036854775800) (yt:Tr) (cy:Cel) (jc:fQ yt) (uf:VAt S w yt cy) (hT:iF w):
  Calls Tryz.prog 199 #[.agg (aL xa),.agg #[.int .i64 s,.int .i64 i,.string u],.agg (aL cy)] w fun r w'=>∃y,r=.returned (.tuple #[.agg (aL y),.int .i64 (vI a s i u yt).2])/\VAt (fun g=>S g\/w.heap.size<=g) w' (vI a s i u yt).1 y/\Below w.heap.size w w':=by
 obtain⟨w0,Ck⟩:∃w0,((w.alloc (.cells (aL xa) 37)).alloc (.cells #[.int .i64 s,.int .i64 i,.string u] 99)).alloc (.cells (aL cy) 37)=w0:=⟨_,rfl⟩
 obtain⟨mf,uj,ib,Hl,s8⟩:=dF Ck;obtain⟨w1,ag⟩:∃w1,w0.alloc (.cells #[.int .i64 0,.int .i64 0,.string ⟨#[]⟩,.pointer none] 37)=w1:=⟨_,rfl⟩
 obtain⟨F1,bu,al⟩:=fH ag;have af:=tW mf F1;have ai:=kW F1 uj;have aw:=kW F1 ib;have jg:=kW F1 Hl;rw[s8]at bu al;have HX1:=iH ai;have bl:=iH aw;have kg:=iH jg;have HR1:=iH bu;have HB1:=iH af;have HS1:=iH al;have tj:=iH (aGF w1 xa s i u);rw[km.k,aF2]at tj;have dh:=iH (fun W=>iQ W xa);rw[km.k]at dh;rw[<-Ck]at ag;clear Ck mf uj ib Hl s8 F1;by_cases hf:sS a.k s=0
 ·rw[hf]at tj
  by_cases h6:a.k=6
  ·have e:vI a s i u yt=(jH,12):=by unfold vI;rw[if_neg uVu,if_pos h6]
   rw[e];rw[h6]at dh;clear ai aw jg bu al af ha km jc uf hf h6 e hT hu;go_enter Tryz.func199,Tryz.ntmps199;go_upto_region 1 with fail
   clear ag;go_wp2_with (first
    |(refine aW rfl 37 _ rfl w.heap.size rfl 37 _ _ _ HX1.out Tryz.underlying37 rfl aF ?_)
    |(refine aW rfl 99 _ rfl (w.heap.size+1) rfl 99 _ _ _ bl.out Tryz.underlying99 rfl dR ?_)
    |(go_at_call 244;(with_reducible refine tj.out.mono ?_);rintro r w2 ⟨rfl,ah⟩;have aq:=iH ah;have HX2:=iH (kW ah HX1.out);have bo:=iH (kW ah bl.out);have fx:=iH (kW ah kg.out);have gl:=iH (kW ah HR1.out);clear ah)
    |(refine aW rfl 37 _ rfl w.heap.size rfl 37 _ _ _ HX2.out Tryz.underlying37 rfl aF ?_)
    |(go_at_call 32;(with_reducible refine(dh.out _).mono ?_);rintro r w3 ⟨rfl,au⟩;have av:=iH (tW aq.out au);have be:=iH (kW au HX2.out);have dp:=iH (kW au bo.out);have xg:=iH (kW au fx.out);have ma:=iH (kW au gl.out);clear au)
    |(refine aV rfl 37 _ _ rfl (w.heap.size+3) #[.int .i64 0,.int .i64 0,.string ⟨#[]⟩,.pointer none] rfl rfl 37 _ ma.out aF rfl uAx ?_;intro w5 h5 k5))
   exact aN (aR rfl _ _ (w.heap.size+3) 37 _ (0,0) _ rfl h5 Tryz.underlying37 rfl aF) rfl ⟨gO,rfl,lT _ _,(tW HB1.out av.out).trans (k5.below hO)⟩
  have h4:4<=a.k:=by rcases oJ hf with⟨_,h⟩|⟨_,h⟩|⟨_,h⟩<;>omega
  obtain⟨ba,la,el,Is,gu,rr,Gx,kr,O2,O3,O4,xb,mn,qp,ru,qh⟩:=km.old.parts h4;have px:rr.size=4/\Gx.size=6:=⟨qp.size,ru.size⟩
  have Dy:w1.cell? ⟨w.heap.size,3,none⟩=some (.pointer (some ⟨ba,0,none⟩)):=aG ai (by rw[<-el];rfl);have py:=kW af xb;have xp:=iH (And.intro Dy (vY px.1 px.2 py));have Af:=gD gu;have dx:=ha.len;have wm:=aJ0 ha;have tf:=ha.nodL;have Gy:=jc.dep;have Cb:=jc.nod;have bd:Hid (#[kr,.int .i64 (cU a.xs:Int)].all (·.oneCell')=true):=by obtain⟨_,_,rfl,_⟩:=qh.shape;show _=true;simp[Value.oneCell']
  have ow:=iH (fun W (hb:Below w.heap.size w W)=>aNs W a xa ba ha (km.old.later hb) el s i u hf hu);have A4:=iH (fun W (hb:Below w1.heap.size w1 W)=>tN W yt cy jc (uf.later (tW af hb)));obtain⟨k,hk⟩:∃k,k=a.k:=⟨_,rfl⟩
  cases hat:atT a i u with
  |none=>
   rw[hat]at ow;by_cases wy:a.k=4
   ·have e:vI a s i u yt=(jH,5):=by unfold vI;rw[if_neg uVu,if_neg h6,hat];exact if_pos wy
    rw[e];rw[wy]at dh;clear ai aw jg bu al af ha km jc uf hf h6 e hat hT hu Is gu xb qp ru qh py Af dx wm tf Gy Cb el mn Dy px h4 hk wy A4;go_enter Tryz.func199,Tryz.ntmps199;go_upto_region 1 with fail
    clear ag;go_upto_region 6 with(first
     |(refine aW rfl 37 _ rfl w.heap.size rfl 37 _ _ _ HX1.out Tryz.underlying37 rfl aF ?_)
     |(refine aW rfl 99 _ rfl (w.heap.size+1) rfl 99 _ _ _ bl.out Tryz.underlying99 rfl dR ?_)
     |(go_at_call 244;(with_reducible refine tj.out.mono ?_);rintro r w2 ⟨rfl,ah⟩;have aq:=iH ah;have HX2:=iH (kW ah HX1.out);have bo:=iH (kW ah bl.out);have fx:=iH (kW ah kg.out);have gl:=iH (kW ah HR1.out);clear ah)
     |(refine aW rfl 37 _ rfl w.heap.size rfl 37 _ _ _ HX2.out Tryz.underlying37 rfl aF ?_)
     |(go_at_call 32;(with_reducible refine(dh.out _).mono ?_);rintro r w3 ⟨rfl,au⟩;have av:=iH (tW aq.out au);have be:=iH (kW au HX2.out);have dp:=iH (kW au bo.out);have xg:=iH (kW au fx.out);have ma:=iH (kW au gl.out);clear au))
    have M6:w3.cell? ⟨w.heap.size,3,none⟩=some (.pointer (some ⟨ba,0,none⟩)):=dQ xp.out.1 av.out;go_upto_region 7 with(first
     |(refine aW rfl 37 _ rfl w.heap.size rfl 37 _ _ _ be.out Tryz.underlying37 rfl aF ?_)
     |(refine cO rfl 138 _ rfl ba 10 rfl [kr,.int .i64 (cU a.xs:Int)] _ (fF xp.out.2 av.out) Tryz.underlying138 rfl dP ?_)
     |(refine aV rfl 138 _ _ rfl w3.heap.size #[kr,.int .i64 (cU a.xs:Int)] rfl rfl 138 _ (aC _ _) dP rfl bd.out ?_;intro w4 gn k4))
    have mx:=(Below.newly' w3 (.cells #[.slice none 0 0,.int .i64 0] 138)).trans (k4.below (aA _));have bg:=iH (tW av.out mx);have bw:=iH (kW mx be.out);have gg:=iH (kW mx dp.out);have M7:=iH (kW mx xg.out);have qk:=iH (kW mx ma.out);replace M6:=dQ xp.out.1 bg.out;clear gn k4 mx;go_wp2_with (first
     |(refine aW rfl 99 _ rfl (w.heap.size+1) rfl 99 _ _ _ gg.out Tryz.underlying99 rfl dR ?_)
     |(go_at_call 245;(with_reducible refine(ow.out _ (tW HB1.out bg.out)).mono ?_);rintro r w5 ⟨xo,rfl,ho,ay⟩;have bp:=iH (tW bg.out ay);have fg:=iH (kW ay bw.out);have gk:=iH (kW ay gg.out);have sa:=iH (kW ay M7.out);have nu:=iH (kW ay qk.out);clear ay ho)
     |(refine aV rfl 37 _ _ rfl w5.heap.size (aL xo) rfl rfl 37 _ (aC _ _) aF rfl (cE xo) ?_;intro w6 h6 k6;have lp:=(Below.newly' w5 (.cells #[.int .i64 0,.int .i64 0,.string ⟨#[]⟩,.pointer none] 37)).trans (k6.below (aA _));have ek:=iH (tW bp.out lp);have HX6:=iH (kW lp fg.out);have pk:=iH (kW lp gk.out);have C6:=iH (kW lp sa.out);have vk:=iH (kW lp nu.out);clear h6 k6 lp)
     |(refine aW rfl 37 _ rfl w.heap.size rfl 37 _ _ _ HX6.out Tryz.underlying37 rfl aF ?_)
     |(go_at_call 32;(with_reducible refine(dh.out _).mono ?_);rintro r w7 ⟨rfl,E8⟩;have yc:=iH (tW ek.out E8);have Gs:=iH (kW E8 vk.out);clear E8)
     |(refine aV rfl 37 _ _ rfl (w.heap.size+3) #[.int .i64 0,.int .i64 0,.string ⟨#[]⟩,.pointer none] rfl rfl 37 _ Gs.out aF rfl uAx ?_;intro w5 h5 k5))
    exact aN (aR rfl _ _ (w.heap.size+3) 37 _ (0,0) _ rfl h5 Tryz.underlying37 rfl aF) rfl ⟨gO,rfl,lT _ _,(tW HB1.out yc.out).trans (k5.below hO)⟩
   have h5:a.k=5:=by rcases oJ hf with⟨_,h⟩|⟨_,h⟩|⟨_,h⟩<;>omega
   have e:vI a s i u yt=dY (Tr.nd a.k 0 ⟨#[]⟩ (eN (eX a.ks u) a.ks u) (eN (eX a.ks u) a.xs yt)):=by unfold vI;rw[if_neg uVu,if_neg h6,hat];exact if_neg wy
   rw[e];rw[h5]at dh;have dz:=aAi (eX a.ks u) a.xs yt;have i1:=fM (eN (eX a.ks u) a.xs yt);have i2:=nT dz;have i3:=pH dz;rw[qW]at i2;rw[sW]at i3;simp only[fP,cU]at i2 i3;have jm:Hid (∀W d dt,bY (fun _=>True) W 1 d (iv (tal a.xs)) (tal a.xs).length->bY (fun _=>True) W 1 dt (iv (tal [yt])) (tal [yt]).length->Calls Tryz.prog 68 #[.agg #[d,.int .i64 ((cU a.xs:Nat):Int)],.agg #[dt,.int .i64 ((eW yt:Nat):Int)]] W fun r W'=>∃dn,r=.returned (.agg #[dn,.int .i64 ((cU (eN (eX a.ks u) a.xs yt):Nat):Int)])/\bY (fun g=>W.heap.size<=g) W' 1 dn (iv (tal (eN (eX a.ks u) a.xs yt))) (tal (eN (eX a.ks u) a.xs yt)).length/\Below W.heap.size W W'):=fun W d dt hd It=>by
    have h:=aFs (S:=fun _=>True) W d dt (tal a.xs) (tal [yt]) (cU a.xs) (eW yt) hd It hO uRv (aFt ha) (wY uAy) hO (by have:=jc.nod;omega);rw[aCh,show cU a.xs+eW yt=cU (a.xs++[yt]) by rw[qW];simp[cU],aBV dz,nT dz]at h;exact h
   rw[fM]at wm;have qi:Hid (∀W dn,Below w1.heap.size w1 W->bY (fun g=>w1.heap.size<=g) W 1 dn (iv (tal (eN (eX a.ks u) a.xs yt))) (tal (eN (eX a.ks u) a.xs yt)).length->Calls Tryz.prog 196 #[.agg (aL xa),.agg #[dn,.int .i64 ((cU (eN (eX a.ks u) a.xs yt):Nat):Int)],.func (.func 247) #[] #[.pointer (some ⟨w.heap.size+1,0,none⟩),.pointer (some ⟨w.heap.size+2,0,none⟩)]] W fun r W'=>∃y,r=.returned (.tuple #[.agg (aL y),.int .i64 (dY (Tr.nd a.k 0 ⟨#[]⟩ (eN (eX a.ks u) a.ks u) (eN (eX a.ks u) a.xs yt))).2])/\VAt (fun g=>((S g/\g<w.heap.size)\/w1.heap.size<=g)\/W.heap.size<=g) W' (dY (Tr.nd a.k 0 ⟨#[]⟩ (eN (eX a.ks u) a.ks u) (eN (eX a.ks u) a.xs yt))).1 y/\Below W.heap.size W W'):=(fun W dn hW M8=>by
    have dy:=tW af hW;have O5:=kW hW aw;have Vm:=kW hW jg;exact rK (S:=(fun g=>(S g/\g<w.heap.size)\/w1.heap.size<=g)) W xa ba el rr Gx kr (cU a.xs) O2 (kW dy xb) _ ((qp.later dy).weak fun _ h=>.inl h) _ O3 O4 ((ru.later dy).weak fun _ h=>.inl h) mn (tal a.xs) ((qh.later dy).weak fun _ h=>.inl h) 247 #[.pointer (some ⟨w.heap.size+1,0,none⟩),.pointer (some ⟨w.heap.size+2,0,none⟩)] (iX Tryz.func247 uAu rfl)
     (Tr.nd a.k 0 ⟨#[]⟩ (eN (eX a.ks u) a.ks u) (eN (eX a.ks u) a.xs yt)) h4 km.k ⟨(km.two ha h4).1,rfl⟩ ⟨(km.two ha h4).2,rfl⟩ (eN (eX a.ks u) la cy) (aBP ((gu.later dy).weak fun _ h=>.inl h) _ ((uf.old.later dy).weak fun _ h=>.inl h))
     (by
      rw[aMd,aKp,uO];obtain⟨k1,k2,_⟩:=ha.mkeys (.inl h5);rw[aGk (.inl h5)]at hat;have hk:a.k≠4:=by omega
      have rz:∀ks xs,qD a.k ks xs=ks:=fun ks xs=>by unfold qD;rw[if_pos h5]
      have hM:aA5 a.ks:=by rw[rz]at k2;exact k2
      have Kj:a.ks.length=la.length:=by rw[rz]at k1;omega
      rw[rz]at hat;have Iu:nR a.k a.ks a.xs la=a.ks.zip la:=by rw[nR,rz]
      rw[vW hk,nR,rz,<-aB1 hM Kj hat];exact Ac1
     )
     dn (M8.weak fun _ h=>.inr h) uKv uKv)
   have DU:=iH qh;obtain⟨zs,mr⟩:∃zs,zs=a.xs:=⟨_,rfl⟩
   obtain⟨ns,A5⟩:∃ns,ns=eN (eX a.ks u) a.xs yt:=⟨_,rfl⟩
   obtain⟨A',F2⟩:∃t,t=(Tr.nd a.k 0 ⟨#[]⟩ (eN (eX a.ks u) a.ks u) (eN (eX a.ks u) a.xs yt)):=⟨_,rfl⟩
   rw[<-F2]at qi ⊢;rw[<-A5]at qi jm;rw[<-mr]at jm DU bd xp;obtain⟨R1,F3⟩:∃t,t=(dY A').1:=⟨_,rfl⟩
   obtain⟨R2,wb⟩:∃t,t=(dY A').2:=⟨_,rfl⟩
   rw[<-F3,<-wb]at qi ⊢;clear F2 mr A5 F3 wb ai aw jg bu al af ha km jc uf hf h6 e hat hT hu Is gu xb qp ru qh py Af dx wm tf Gy Cb el mn Dy px dz i1 i2 i3 h4 h5 hk wy;go_enter Tryz.func199,Tryz.ntmps199;go_upto_region 1 with fail
   clear ag;go_upto_region 6 with(first
    |(refine aW rfl 37 _ rfl w.heap.size rfl 37 _ _ _ HX1.out Tryz.underlying37 rfl aF ?_)
    |(refine aW rfl 99 _ rfl (w.heap.size+1) rfl 99 _ _ _ bl.out Tryz.underlying99 rfl dR ?_)
    |(go_at_call 244;(with_reducible refine tj.out.mono ?_);rintro r w2 ⟨rfl,ah⟩;have aq:=iH ah;have HX2:=iH (kW ah HX1.out);have bo:=iH (kW ah bl.out);have fx:=iH (kW ah kg.out);have gl:=iH (kW ah HR1.out);clear ah)
    |(refine aW rfl 37 _ rfl w.heap.size rfl 37 _ _ _ HX2.out Tryz.underlying37 rfl aF ?_)
    |(go_at_call 32;(with_reducible refine(dh.out _).mono ?_);rintro r w3 ⟨rfl,au⟩;have av:=iH (tW aq.out au);have be:=iH (kW au HX2.out);have dp:=iH (kW au bo.out);have xg:=iH (kW au fx.out);have ma:=iH (kW au gl.out);clear au))
   have M6:w3.cell? ⟨w.heap.size,3,none⟩=some (.pointer (some ⟨ba,0,none⟩)):=dQ xp.out.1 av.out;go_upto_region 7 with(first
    |(refine aW rfl 37 _ rfl w.heap.size rfl 37 _ _ _ be.out Tryz.underlying37 rfl aF ?_)
    |(refine cO rfl 138 _ rfl ba 10 rfl [kr,.int .i64 (cU zs:Int)] _ (fF xp.out.2 av.out) Tryz.underlying138 rfl dP ?_)
    |(refine aV rfl 138 _ _ rfl w3.heap.size #[kr,.int .i64 (cU zs:Int)] rfl rfl 138 _ (aC _ _) dP rfl bd.out ?_;intro w4 gn k4))
   have mx:=(Below.newly' w3 (.cells #[.slice none 0 0,.int .i64 0] 138)).trans (k4.below (aA _));have bg:=iH (tW av.out mx);have bw:=iH (kW mx be.out);have gg:=iH (kW mx dp.out);have M7:=iH (kW mx xg.out);have qk:=iH (kW mx ma.out);obtain⟨C0,F4⟩:∃C0,C0=w3.heap.size:=⟨_,rfl⟩
   rw[<-F4]at gn ⊢;have vj:=iH gn;replace M6:=dQ xp.out.1 bg.out;clear gn k4 F4 mx;go_upto_region 12 with(first
    |(refine aW rfl 99 _ rfl (w.heap.size+1) rfl 99 _ _ _ gg.out Tryz.underlying99 rfl dR ?_)
    |(go_at_call 245;(with_reducible refine(ow.out _ (tW HB1.out bg.out)).mono ?_);rintro r w5 ⟨xo,rfl,ho,ay⟩;have bp:=iH (tW bg.out ay);have fg:=iH (kW ay bw.out);have gk:=iH (kW ay gg.out);have sa:=iH (kW ay M7.out);have nu:=iH (kW ay qk.out);have By:=iH (kW ay vj.out);clear ay ho)
    |(refine aV rfl 37 _ _ rfl w5.heap.size (aL xo) rfl rfl 37 _ (aC _ _) aF rfl (cE xo) ?_;intro w6 h6 k6;have lp:=(Below.newly' w5 (.cells #[.int .i64 0,.int .i64 0,.string ⟨#[]⟩,.pointer none] 37)).trans (k6.below (aA _));have ek:=iH (tW bp.out lp);have HX6:=iH (kW lp fg.out);have pk:=iH (kW lp gk.out);have C6:=iH (kW lp sa.out);have vk:=iH (kW lp nu.out);have Gm:=iH (kW lp By.out);clear h6 k6 lp)
    |(refine aW rfl 37 _ rfl w.heap.size rfl 37 _ _ _ HX6.out Tryz.underlying37 rfl aF ?_)
    |(go_at_call 32;(with_reducible refine(dh.out _).mono ?_);rintro r w9 ⟨rfl,M9⟩;have gm:=iH (tW ek.out M9);have rv:=iH (kW M9 HX6.out);have Kk:=iH (kW M9 pk.out);have Gz:=iH (kW M9 C6.out);have A6:=iH (kW M9 vk.out);have Dz:=iH (kW M9 Gm.out);clear M9))
   have Ze:=iH ((DU.out.later (tW HB1.out gm.out)).weak (S':=fun _=>True) fun _ _=>trivial);clear HX2 be bw fg HX6 bo dp gg gk pk fx xg M7 sa C6 gl ma qk nu vk vj By Gm ow aq av bg bp ek bd xp M6;have ar:Hid (∀V,Below w9.heap.size w9 V->V.heap[w.heap.size]? =some (.cells (aL xa) 37 (0,0))/\V.heap[C0]? =some (.cells #[kr,.int .i64 ((cU zs:Nat):Int)] 138 (0,0))/\V.heap[w.heap.size+2]? =some (.cells (aL cy) 37 (0,0))):=fun V hV=>⟨kW hV rv.out,kW hV Dz.out,kW hV Gz.out⟩
   have HW:Hid (Below w9.heap.size w9 w9.drew):=aY w9;refine bO (S:=(fun V=>V.heap[w.heap.size]? =some (.cells (aL xa) 37 (0,0))/\V.heap[C0]? =some (.cells #[kr,.int .i64 ((cU zs:Nat):Int)] 138 (0,0))/\V.heap[w.heap.size+2]? =some (.cells (aL cy) 37 (0,0)))) [9,10] uAu uAw (fun ab=> ?_);refine tyL 0 46 (hy:=aJ uAz 37 _ rfl w.heap.size rfl (aL xa) 37 (0,0) _ (fun w hw=>hw.1) Tryz.underlying37 rfl uCu) (h:=?_);refine tyL 1 47 (hy:=aJ uAz 138 _ rfl C0 rfl #[kr,.int .i64 ((cU zs:Nat):Int)] 138 (0,0) _ (fun w hw=>hw.2.1) Tryz.underlying138 rfl uTy) (h:=?_);(try simp only[pq]);refine tyL 2 48 (hy:=aJ uAz 37 _ rfl (w.heap.size+2) rfl (aL cy) 37 (0,0) _ (fun w hw=>hw.2.2) Tryz.underlying37 rfl uCu) (h:=?_);refine tkL 5 51 (h:=?_);(try simp only[pq]);refine tkO 3 (some 49) (h:=fun K hK=> ?_);go_simp;go_at_call 69;(with_reducible refine(A4.out _ uFw).mono ?_);rintro r wA ⟨dt,rfl,hd,hb⟩;have D0:=iH hd;replace HW:=iH (tW HW.out hb);clear hb hd;dsimp only;refine hK.out _ _ uAw (fun ab=> ?_);clear hK K;(try simp only[pq]);refine tkO 4 (some 50) (h:=fun K hK=> ?_);go_simp;go_at_call 68;(with_reducible refine(jm.out _ kr dt uOw uGz).mono ?_);rintro r wB ⟨dn,rfl,hd,hb⟩;have G0:=iH hd;have zq:=iH HW.out.size;replace HW:=iH (tW HW.out hb);clear hb hd;dsimp only;refine hK.out _ _ uAw (fun ab=> ?_);clear hK K;(try simp only[pq]);refine tkO 6 (some 52) (h:=fun K hK=> ?_);have A7:Hid (w1.heap.size<=wB.heap.size):=aI gm.out.size HW.out.size;go_simp;go_at_call 196;(with_reducible refine(qi.out _ dn uFw uEv).mono ?_)
   rintro r wC ⟨y,rfl,hy,hb⟩;have Iv:=iH hy;replace HW:=iH (tW HW.out hb);clear hb hy;dsimp only;refine hK.out _ _ uAw (fun ab=> ?_);clear hK K;(try simp only[pq]);refine tkL 7 53 (h:=?_);refine tkL 8 54 (h:=?_);(try simp only[pq]);refine tkU 9 none (h:=fun K hK=> ?_);refine eC 37 _ _ rfl (w.heap.size+3) (aL y) rfl rfl 37 _ ((HW.out.block _ (by exact(gZ A6.out))).trans A6.out) aF rfl (cE y) ?_;intro w8 h8 k8;refine hK.out _ _ ?_;clear hK K;(try simp only[pq]);refine tkU 10 (some 7) (h:=fun K hK=> ?_);go_simp;refine hK.out _ _ ?_;clear hK K;(try simp only[pq]);refine bJ uAu ?_ _;clear ab;go_wp2_with fail
   have al:=HS1.out;have hl:=gm.out.size;have lh:=HW.out.size;refine aN (aR rfl _ _ (w.heap.size+3) 37 _ (0,0) _ rfl h8 Tryz.underlying37 rfl aF) rfl ⟨y,rfl,(Iv.out.imp (Kq.only k8 ?_) ?_),(HB1.out.trans ((tW gm.out HW.out).mono HB1.out.size)).trans (k8.below hO)⟩
   ·exact fun h=>by have:=A7.out;rcases h with(h|h)|h<;>omega
   ·exact Ad2
  |some j=>
   have hj:=aSI ha.1.1 hat;have e:vI a s i u yt=dY (Tr.nd a.k 0 ⟨#[]⟩ a.ks (a.xs.set j yt)):=by unfold vI;rw[if_neg uVu,if_neg h6,hat]
   rw[e];rw[hat,aM4 hj hat]at ow;have DV:=ha.part (aX hj);have ym:=aJC hj;have Ds:=aHz a.xs j hj;have dz:=aNW hj yt;have i1:=fM (a.xs.set j yt);have i2:=nT dz;have i3:=pH dz;have i4:=aPC (List.eraseIdx_sublist a.xs j);rw[qW]at i2;rw[sW]at i3;simp only[fP,cU]at i2 i3;have i5:=fM (a.xs.eraseIdx j);rw[fM]at wm;have Zf:Hid (∀W,Below w.heap.size w W->∀xo,VAt (fun g=>S g/\g<w.heap.size) W a.xs[j] xo->Calls Tryz.prog 69 #[.agg (aL xo)] W fun r W'=>∃d,r=.returned (.agg #[d,.int .i64 ((eW a.xs[j]:Nat):Int)])/\bY (fun g=>W.heap.size<=g) W' 1 d (iv (tal [a.xs[j]])) (tal [a.xs[j]]).length/\Below W.heap.size W W'):=fun W _ xo KP=>tN W _ xo DV KP
   have Vn:Hid (∀W dt,Below w.heap.size w W->bY (fun _=>True) W 1 dt (iv (tal [a.xs[j]])) (tal [a.xs[j]]).length->Calls Tryz.prog 246 #[.agg #[kr,.int .i64 (cU a.xs:Int)],.agg #[dt,.int .i64 ((eW a.xs[j]:Nat):Int)]] W fun r W'=>∃dn,r=.returned (.agg #[dn,.int .i64 ((cU (a.xs.eraseIdx j):Nat):Int)])/\bY (fun g=>W.heap.size<=g) W' 1 dn (iv (tal (a.xs.eraseIdx j))) (tal (a.xs.eraseIdx j)).length/\Below W.heap.size W W'):=fun W dt hW It=>by
    have h:=aQL (S:=fun _=>True) W kr dt (tal a.xs) (tal [a.xs[j]]) (cU a.xs) (eW a.xs[j]) ((qh.later hW).weak fun _ _=>trivial) It (by rw[fM];have:=zV (aX hj);have:=zU a.xs[j];omega) (by rw[fM];omega) (aIZ (aX hj)) (aFt ha) (wY uAy) hO (aHy (aX hj));rw[aOT ym,show cU a.xs-eW a.xs[j]=cU (a.xs.eraseIdx j) by omega]at h;exact h
   have jm:Hid (∀W d dt,bY (fun _=>True) W 1 d (iv (tal (a.xs.eraseIdx j))) (tal (a.xs.eraseIdx j)).length->bY (fun _=>True) W 1 dt (iv (tal [yt])) (tal [yt]).length->Calls Tryz.prog 68 #[.agg #[d,.int .i64 ((cU (a.xs.eraseIdx j):Nat):Int)],.agg #[dt,.int .i64 ((eW yt:Nat):Int)]] W fun r W'=>∃dn,r=.returned (.agg #[dn,.int .i64 ((cU (a.xs.set j yt):Nat):Int)])/\bY (fun g=>W.heap.size<=g) W' 1 dn (iv (tal (a.xs.set j yt))) (tal (a.xs.set j yt)).length/\Below W.heap.size W W'):=fun W d dt hd It=>by
    have h:=aFs (S:=fun _=>True) W d dt (tal (a.xs.eraseIdx j)) (tal [yt]) (cU (a.xs.eraseIdx j)) (eW yt) hd It hO uRv (wY (by rw[List.length_eraseIdx_of_lt hj];omega)) (wY uAy) hO (by have:=jc.nod;omega);rw[aCh,show cU (a.xs.eraseIdx j)+eW yt=cU ((a.xs.eraseIdx j)++[yt]) by rw[qW];simp[cU],aBV dz,nT dz]at h;exact h
   have qi:Hid (∀W dn,Below w1.heap.size w1 W->bY (fun g=>w1.heap.size<=g) W 1 dn (iv (tal (a.xs.set j yt))) (tal (a.xs.set j yt)).length->Calls Tryz.prog 196 #[.agg (aL xa),.agg #[dn,.int .i64 ((cU (a.xs.set j yt):Nat):Int)],.func (.func 247) #[] #[.pointer (some ⟨w.heap.size+1,0,none⟩),.pointer (some ⟨w.heap.size+2,0,none⟩)]] W fun r W'=>∃y,r=.returned (.tuple #[.agg (aL y),.int .i64 (dY (Tr.nd a.k 0 ⟨#[]⟩ a.ks (a.xs.set j yt))).2])/\VAt (fun g=>((S g/\g<w.heap.size)\/w1.heap.size<=g)\/W.heap.size<=g) W' (dY (Tr.nd a.k 0 ⟨#[]⟩ a.ks (a.xs.set j yt))).1 y/\Below W.heap.size W W'):=(fun W dn hW M8=>by
    have dy:=tW af hW;have O5:=kW hW aw;have Vm:=kW hW jg;exact rK (S:=(fun g=>(S g/\g<w.heap.size)\/w1.heap.size<=g)) W xa ba el rr Gx kr (cU a.xs) O2 (kW dy xb) _ ((qp.later dy).weak fun _ h=>.inl h) _ O3 O4 ((ru.later dy).weak fun _ h=>.inl h) mn (tal a.xs) ((qh.later dy).weak fun _ h=>.inl h) 247 #[.pointer (some ⟨w.heap.size+1,0,none⟩),.pointer (some ⟨w.heap.size+2,0,none⟩)] (iX Tryz.func247 uAu rfl)
     (Tr.nd a.k 0 ⟨#[]⟩ a.ks (a.xs.set j yt)) h4 km.k ⟨(km.two ha h4).1,rfl⟩ ⟨(km.two ha h4).2,rfl⟩ (la.set j cy) (aNv ((gu.later dy).weak fun _ h=>.inl h) j ((uf.old.later dy).weak fun _ h=>.inl h))
     (by
      rw[aMd,aKp,uO];by_cases hk:a.k=4
      ·obtain⟨rfl,rfl⟩:s=0/\i=(j:Int):=by
        refine⟨by rcases oJ hf with⟨h,_⟩|⟨_,h⟩|⟨_,h⟩<;>omega,?_⟩;unfold atT at hat;rw[if_pos hk]at hat;split at hat
        ·simp only[bA]at hat;omega
        ·cases hat
       rw[vV hk,aCC hk]at*
       exact aIj (S:=(fun g=>(S g/\g<w.heap.size)\/w1.heap.size<=g)) (w:=W) (rc:=rr) (mc:=Gx) (d0:=kr) (N0:=cU a.xs) la j u ((qp.later dy).weak fun _ h=>.inl h) hO hO ((ru.later dy).weak fun _ h=>.inl h) (w.heap.size+1) (0,0) O5 (w.heap.size+2) cy (0,0) Vm px.1 px.2
      ·have h5:a.k=5:=by rcases oJ hf with⟨_,h⟩|⟨_,h⟩|⟨_,h⟩<;>omega
       obtain⟨k1,k2,_⟩:=ha.mkeys (.inl h5);rw[aGk (.inl h5)]at hat;have rz:∀xs,qD a.k a.ks xs=a.ks:=fun xs=>by unfold qD;rw[if_pos h5]
       have hM:aA5 a.ks:=by rw[rz]at k2;exact k2
       have Kj:a.ks.length=la.length:=by rw[rz]at k1;omega
       rw[rz]at hat;have Iu:nR a.k a.ks a.xs la=a.ks.zip la:=by rw[nR,rz]
       rw[vW hk,nR,rz,<-aHQ hM Kj hat];exact Ac1
     )
     dn (M8.weak fun _ h=>.inr h) uKv uKv)
   obtain⟨zs,mr⟩:∃zs,zs=a.xs.eraseIdx j:=⟨_,rfl⟩
   obtain⟨ns,A5⟩:∃ns,ns=a.xs.set j yt:=⟨_,rfl⟩
   obtain⟨A',F2⟩:∃t,t=(Tr.nd a.k 0 ⟨#[]⟩ a.ks (a.xs.set j yt)):=⟨_,rfl⟩
   obtain⟨pj,Sw⟩:∃p,p=a.xs[j]:=⟨_,rfl⟩
   rw[<-F2]at qi ⊢;rw[<-A5]at qi jm;rw[<-mr]at jm Vn;rw[<-Sw]at Zf Vn ow;obtain⟨R1,F3⟩:∃t,t=(dY A').1:=⟨_,rfl⟩
   obtain⟨R2,wb⟩:∃t,t=(dY A').2:=⟨_,rfl⟩
   rw[<-F3,<-wb]at qi ⊢;have IA:¬k=6:=by rw[hk];exact h6
   rw[<-hk]at dh;clear F2 mr A5 Sw F3 wb ai aw jg bu al af ha km jc uf hf h6 e hat hT hu Is gu xb qp ru qh py Af dx wm tf Gy Cb el mn Dy px DV ym Ds dz i1 i2 i3 i4 i5 h4 hj hk;go_enter Tryz.func199,Tryz.ntmps199;go_upto_region 1 with fail
   clear ag;go_upto_region 6 with(first
    |(refine aW rfl 37 _ rfl w.heap.size rfl 37 _ _ _ HX1.out Tryz.underlying37 rfl aF ?_)
    |(refine aW rfl 99 _ rfl (w.heap.size+1) rfl 99 _ _ _ bl.out Tryz.underlying99 rfl dR ?_)
    |(go_at_call 244;(with_reducible refine tj.out.mono ?_);rintro r w2 ⟨rfl,ah⟩;have aq:=iH ah;have HX2:=iH (kW ah HX1.out);have bo:=iH (kW ah bl.out);have fx:=iH (kW ah kg.out);have gl:=iH (kW ah HR1.out);clear ah)
    |(refine aW rfl 37 _ rfl w.heap.size rfl 37 _ _ _ HX2.out Tryz.underlying37 rfl aF ?_)
    |(go_at_call 32;(with_reducible refine(dh.out _).mono ?_);rintro r w3 ⟨rfl,au⟩;have av:=iH (tW aq.out au);have be:=iH (kW au HX2.out);have dp:=iH (kW au bo.out);have xg:=iH (kW au fx.out);have ma:=iH (kW au gl.out);clear au))
   have M6:w3.cell? ⟨w.heap.size,3,none⟩=some (.pointer (some ⟨ba,0,none⟩)):=dQ xp.out.1 av.out;go_upto_region 7 with(first
    |(refine aW rfl 37 _ rfl w.heap.size rfl 37 _ _ _ be.out Tryz.underlying37 rfl aF ?_)
    |(refine cO rfl 138 _ rfl ba 10 rfl [kr,.int .i64 (cU a.xs:Int)] _ (fF xp.out.2 av.out) Tryz.underlying138 rfl dP ?_)
    |(refine aV rfl 138 _ _ rfl w3.heap.size #[kr,.int .i64 (cU a.xs:Int)] rfl rfl 138 _ (aC _ _) dP rfl bd.out ?_;intro w4 gn k4))
   have mx:=(Below.newly' w3 (.cells #[.slice none 0 0,.int .i64 0] 138)).trans (k4.below (aA _));have bg:=iH (tW av.out mx);have bw:=iH (kW mx be.out);have gg:=iH (kW mx dp.out);have M7:=iH (kW mx xg.out);have qk:=iH (kW mx ma.out);obtain⟨C0,F4⟩:∃C0,C0=w3.heap.size:=⟨_,rfl⟩
   rw[<-F4]at gn ⊢;have vj:=iH gn;have Zg:Hid (w1.heap.size<=C0):=by show _<=_;rw[F4];exact av.out.size
   replace M6:=dQ xp.out.1 bg.out;clear gn k4 F4 mx;go_upto_region 8 with(first
    |(refine aW rfl 99 _ rfl (w.heap.size+1) rfl 99 _ _ _ gg.out Tryz.underlying99 rfl dR ?_)
    |(go_at_call 245;(with_reducible refine(ow.out _ (tW HB1.out bg.out)).mono ?_);rintro r w5 ⟨xo,rfl,ho,ay⟩;have bp:=iH (tW bg.out ay);have Oh:=iH ho;have fg:=iH (kW ay bw.out);have gk:=iH (kW ay gg.out);have sa:=iH (kW ay M7.out);have nu:=iH (kW ay qk.out);have By:=iH (kW ay vj.out);clear ay ho)
    |(refine aV rfl 37 _ _ rfl w5.heap.size (aL xo) rfl rfl 37 _ (aC _ _) aF rfl (cE xo) ?_;intro w6 h6 k6))
   have lp:=(Below.newly' w5 (.cells #[.int .i64 0,.int .i64 0,.string ⟨#[]⟩,.pointer none] 37)).trans (k6.below (aA _));have ek:=iH (tW bp.out lp);have HX6:=iH (kW lp fg.out);have pk:=iH (kW lp gk.out);have C6:=iH (kW lp sa.out);have vk:=iH (kW lp nu.out);have Gm:=iH (kW lp By.out);have DW:=iH (Oh.out.later lp);obtain⟨M,hM⟩:∃M,M=w5.heap.size:=⟨_,rfl⟩
   rw[<-hM]at h6 ⊢;have DX:=iH h6;clear h6 k6 hM lp M6 HX2 be bw fg bo dp gg gk fx xg M7 sa gl ma qk nu vj By;go_upto_region 9 with fail
   have ar:Hid (∀V,Below w6.heap.size w6 V->V.heap[C0]? =some (.cells #[kr,.int .i64 (cU a.xs:Int)] 138 (0,0))/\V.heap[M]? =some (.cells (aL xo) 37 (0,0))):=fun V hV=>⟨kW hV Gm.out,kW hV DX.out⟩
   have HW:Hid (Below w6.heap.size w6 w6.drew):=aY w6;refine bO (S:=(fun V=>V.heap[C0]? =some (.cells #[kr,.int .i64 (cU a.xs:Int)] 138 (0,0))/\V.heap[M]? =some (.cells (aL xo) 37 (0,0)))) [4] uAu uAw (fun ab=> ?_);refine tyL 0 37 (hy:=aJ uAz 138 _ rfl C0 rfl #[kr,.int .i64 (cU a.xs:Int)] 138 (0,0) _ (fun w hw=>hw.1) Tryz.underlying138 rfl uTy) (h:=?_);refine tyL 1 38 (hy:=aJ uAz 37 _ rfl M rfl (aL xo) 37 (0,0) _ (fun w hw=>hw.2) Tryz.underlying37 rfl uCu) (h:=?_);(try simp only[pq]);refine tkO 2 (some 39) (h:=fun K hK=> ?_);go_simp;go_at_call 69;(with_reducible refine(Zf.out _ uLw xo (by exact DW.out.later HW.out)).mono ?_);rintro r w7 ⟨dt,rfl,hd,hb⟩;have D0:=iH hd;replace HW:=iH (tW HW.out hb);clear hb hd;dsimp only;refine hK.out _ _ uAw (fun ab=> ?_);clear hK K;(try simp only[pq]);refine tkO 3 (some 40) (h:=fun K hK=> ?_);go_simp;go_at_call 246;(with_reducible refine(Vn.out _ dt uLw uGz).mono ?_);rintro r w8 ⟨dc,rfl,hd,hb⟩;have Na:=iH hd;have Zh:=iH HW.out.size;replace HW:=iH (tW HW.out hb);clear hb hd;dsimp only;refine hK.out _ _ uAw (fun ab=> ?_);clear hK K;(try simp only[pq]);refine tkU 4 none (h:=fun K hK=> ?_);refine eC 138 _ _ rfl C0 #[dc,.int .i64 ((cU zs:Nat):Int)] rfl rfl 138 _ ((HW.out.block _ (by exact(gZ Gm.out))).trans Gm.out) dP rfl (by have:=Na.out.shape;obtain⟨_,_,e,_⟩:=this;rw[e];simp[Value.oneCell']) ?_;intro w9 h9 k9;refine hK.out _ _ ?_;clear hK K;(try simp only[pq]);refine bJ uAu ?_ _;clear ab;have Gi:=Zg.out;have al:=HS1.out;have Uo:=(gZ Gm.out)
   have Zi:=Zh.out;have gm:Hid (Below w1.heap.size w1 w9):=(tW ek.out HW.out).trans (k9.below Gi);have Ze:=iH ((Na.out.imp (Kq.only k9 (fun h=>by have h':_<=C0:=h;have:w6.drew.heap.size=w6.heap.size:=rfl;omega)) (fun g h _=>h)).weak (S':=fun _=>True) fun _ _=>trivial);have rv:=iH (k9.other (kW HW.out HX6.out) hO);have Kk:=iH (k9.other (kW HW.out pk.out) hO);have Gz:=iH (k9.other (kW HW.out C6.out) hO);have A6:=iH (k9.other (kW HW.out vk.out) hO);have Dz:=iH h9;clear h9 k9 Gi al Uo Zi HW ar HX6 pk C6 vk Gm DX Oh DW Zf Vn ow D0 Na aq av bg bp ek bd xp;go_upto_region 12 with fail
   have ar:Hid (∀V,Below w9.heap.size w9 V->V.heap[w.heap.size]? =some (.cells (aL xa) 37 (0,0))/\V.heap[C0]? =some (.cells #[dc,.int .i64 ((cU zs:Nat):Int)] 138 (0,0))/\V.heap[w.heap.size+2]? =some (.cells (aL cy) 37 (0,0))):=fun V hV=>⟨kW hV rv.out,kW hV Dz.out,kW hV Gz.out⟩
   have HW:Hid (Below w9.heap.size w9 w9.drew):=aY w9;refine bO (S:=(fun V=>V.heap[w.heap.size]? =some (.cells (aL xa) 37 (0,0))/\V.heap[C0]? =some (.cells #[dc,.int .i64 ((cU zs:Nat):Int)] 138 (0,0))/\V.heap[w.heap.size+2]? =some (.cells (aL cy) 37 (0,0)))) [9,10] uAu uAw (fun ab=> ?_);refine tyL 0 46 (hy:=aJ uAz 37 _ rfl w.heap.size rfl (aL xa) 37 (0,0) _ (fun w hw=>hw.1) Tryz.underlying37 rfl uCu) (h:=?_);refine tyL 1 47 (hy:=aJ uAz 138 _ rfl C0 rfl #[dc,.int .i64 ((cU zs:Nat):Int)] 138 (0,0) _ (fun w hw=>hw.2.1) Tryz.underlying138 rfl uTy) (h:=?_);(try simp only[pq]);refine tyL 2 48 (hy:=aJ uAz 37 _ rfl (w.heap.size+2) rfl (aL cy) 37 (0,0) _ (fun w hw=>hw.2.2) Tryz.underlying37 rfl uCu) (h:=?_);refine tkL 5 51 (h:=?_);(try simp only[pq]);refine tkO 3 (some 49) (h:=fun K hK=> ?_);go_simp;go_at_call 69;(with_reducible refine(A4.out _ uFw).mono ?_);rintro r wA ⟨dt,rfl,hd,hb⟩;have D0:=iH hd;replace HW:=iH (tW HW.out hb);clear hb hd;dsimp only;refine hK.out _ _ uAw (fun ab=> ?_);clear hK K;(try simp only[pq]);refine tkO 4 (some 50) (h:=fun K hK=> ?_);go_simp;go_at_call 68;(with_reducible refine(jm.out _ dc dt uOw uGz).mono ?_);rintro r wB ⟨dn,rfl,hd,hb⟩;have G0:=iH hd;have zq:=iH HW.out.size;replace HW:=iH (tW HW.out hb);clear hb hd;dsimp only;refine hK.out _ _ uAw (fun ab=> ?_);clear hK K;(try simp only[pq]);refine tkO 6 (some 52) (h:=fun K hK=> ?_);have A7:Hid (w1.heap.size<=wB.heap.size):=aI gm.out.size HW.out.size;go_simp;go_at_call 196;(with_reducible refine(qi.out _ dn uFw uEv).mono ?_)
   rintro r wC ⟨y,rfl,hy,hb⟩;have Iv:=iH hy;replace HW:=iH (tW HW.out hb);clear hb hy;dsimp only;refine hK.out _ _ uAw (fun ab=> ?_);clear hK K;(try simp only[pq]);refine tkL 7 53 (h:=?_);refine tkL 8 54 (h:=?_);(try simp only[pq]);refine tkU 9 none (h:=fun K hK=> ?_);refine eC 37 _ _ rfl (w.heap.size+3) (aL y) rfl rfl 37 _ ((HW.out.block _ (by exact(gZ A6.out))).trans A6.out) aF rfl (cE y) ?_;intro w8 h8 k8;refine hK.out _ _ ?_;clear hK K;(try simp only[pq]);refine tkU 10 (some 7) (h:=fun K hK=> ?_);go_simp;refine hK.out _ _ ?_;clear hK K;(try simp only[pq]);refine bJ uAu ?_ _;clear ab;go_wp2_with fail
   have al:=HS1.out;have hl:=gm.out.size;have lh:=HW.out.size;refine aN (aR rfl _ _ (w.heap.size+3) 37 _ (0,0) _ rfl h8 Tryz.underlying37 rfl aF) rfl ⟨y,rfl,(Iv.out.imp (Kq.only k8 ?_) ?_),(HB1.out.trans ((tW gm.out HW.out).mono HB1.out.size)).trans (k8.below hO)⟩
   ·exact fun h=>by have:=A7.out;rcases h with(h|h)|h<;>omega
   ·exact Ad2
 ·have e:vI a s i u yt=(jH,sS a.k s):=by unfold vI;rw[if_pos hf]
  rw[e];rcases aPp a.k s with e0|e0|e0
  ·exact absurd e0 hf
  all_goals
   rw[e0]at tj ⊢;clear ai aw jg bu al af ha km jc uf hf e e0 hT hu dh;go_enter Tryz.func199,Tryz.ntmps199;go_upto_region 1 with fail
   clear ag;go_wp2_with (first
    |(refine aW rfl 37 _ rfl w.heap.size rfl 37 _ _ _ HX1.out Tryz.underlying37 rfl aF ?_)
    |(refine aW rfl 99 _ rfl (w.heap.size+1) rfl 99 _ _ _ bl.out Tryz.underlying99 rfl dR ?_)
    |(go_at_call 244;(with_reducible refine tj.out.mono ?_);rintro r w2 ⟨rfl,ah⟩;have aq:=iH ah;have HX2:=iH (kW ah HX1.out);have bo:=iH (kW ah bl.out);have fx:=iH (kW ah kg.out);have gl:=iH (kW ah HR1.out);clear ah)
    |(refine aV rfl 37 _ _ rfl (w.heap.size+3) #[.int .i64 0,.int .i64 0,.string ⟨#[]⟩,.pointer none] rfl rfl 37 _ gl.out aF rfl uAx ?_;intro w5 h5 k5))
   exact aN (aR rfl _ _ (w.heap.size+3) 37 _ (0,0) _ rfl h5 Tryz.underlying37 rfl aF) rfl ⟨gO,rfl,lT _ _,(tW HB1.out aq.out).trans (k5.below hO)⟩
end Go.Proofs.YthmfgidbcghnfaaGreatDoor
