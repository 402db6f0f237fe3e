import Derived.Test.YtengibnpebfblaaGreatDoorQ0
import Derived.Test.YtengibnpebfblaaGreatDoorQ30
import Derived.Test.YtengibnpebfblaaGreatDoorQ33
set_option maxRecDepth 1000000
set_option maxHeartbeats 8000000
set_option linter.unusedSimpArgs false
namespace Go.Proofs.YtengibnpebfblaaGreatDoor
open Go.RowKit
theorem fW.grown {w w':World} {row:Option Nat} (h:fW w) (hg:w.grownBy w' row) (hne:row≠some 1):fW w':=fun j hj=>aAc hg (fun e=>hne e.symm) (h j hj)
theorem aDf {Z:List Ent} {j:Nat} (h:j<Z.length):wG (Z.take (j+1))=lD (wG (Z.take j)) Z[j].1 Z[j].2:=by
 unfold wG;rw[aS h,aJg]
theorem aC4 {S:Nat->Prop} {w:World} {lv:Value} {l:List Cel} (h:bZ S w 4 lv (ivV l) l.length) {j:Nat} (hj:j<l.length):∃g o c,lv=.slice (some ⟨g,o,none⟩) l.length c/\w.rangeAt g (o+j*4) (aX l[j]).toList:=by
 obtain⟨g,o,c,h1,_,_,_,h2⟩:=bZ.pos h uAu;refine⟨g,o,c,h1,fun i u hu=> ?_⟩;have hi:i<4:=(List.getElem?_eq_some_iff.1 hu).1;rw[show o+j*4+i=o+(j*4+i) by omega];refine h2 (j*4+i) u ?_;rw[aBZ vT l j i l[j] (List.getElem?_eq_getElem hj) hi];exact hu
theorem aEN {S:Nat->Prop} (w:World) (b:Nat) (rc0 mc0:Array Value) (d:Value) (N:Nat) (n:Int) (t:ByteArray) (kv xv lv:Value) (l:List Cel) (hb:w.heap[b]? =some (.cells (iW rc0 mc0 d N) 103 (0,0))) (hr4:rc0.size=4) (hm6:mc0.size=6)
  (hl:bZ S w 4 lv (ivV l) l.length) (hN:l.length<=100000):
  Calls Tryz.prog 96 #[.pointer (some ⟨b,0,none⟩),.agg (trC 4 n t kv xv),lv] w fun e w'=>e=.returned (.tuple #[])/\∃rc,dS (fun g=>w.heap.size<=g) w' rc l/\w'.heap[b]? =some (.cells (iW rc mc0 d N) 103 (0,0))/\w.grownBy w' (some b):=by
 obtain⟨w1,hw1⟩:∃w1,w.alloc (.cells (trC 4 n t kv xv) 28)=w1:=⟨_,rfl⟩
 obtain⟨hb1,hx1,hs1⟩:=eA hw1;have hbl:=(gZ hb)
 have HB3:=iH ((hb1.block _ hbl).trans hb);have HB1:=iH hb1;have HBL:=iH hbl;have HZ:=iH (And.intro hr4 hm6);have c0:w1.cell? ⟨w.heap.size,0,none⟩=some (.int .i64 4):=aK hx1 rfl;have HOF:=iH (rp_Of w1 lv l (hl.later hb1) hN);obtain⟨ad,cp,rfl,_⟩:=hl.shape;clear hb hl hx1 hs1 hr4 hm6 hb1 hbl;go_enter Tryz.func96,Tryz.ntmps96;go_upto_region 1 with fail
 clear hw1;go_wp2_with (first
  |(go_at_call 118;(with_reducible refine HOF.out.mono ?_);rintro e w3 ⟨c,rfl,hr,hb3⟩;have HR:=iH hr;have HW3:=iH hb3;have HX3:=iH (kW hb3 HB3.out);clear hr hb3)
  |(refine aBe rfl 88 _ _ rfl b 0 c rfl rfl 103 _ HX3.out (by rw[dS.size HR.out];exact eL) (by rw[nW HZ.out.1 HZ.out.2,dS.size HR.out];decide) (dS.one HR.out) _ (aHT HZ.out.1 (dS.size HR.out) _ _) ?_;intro w5 h5 k5))
 refine bF (rH rfl _ _ _) rfl ⟨rfl,c,(HR.out.imp (Kq.only k5 ?_) ?_),h5,?_⟩
 ·have:=HBL.out
  have:=HB1.out.size;intro(h:w1.heap.size<=b);omega
 ·intro g (h:w1.heap.size<=g) _
  have:=HB1.out.size;show w.heap.size<=g;omega
 ·exact cJ (dO (tW HB1.out HW3.out) _) k5.by_
theorem aEP {S:Nat->Prop} (w:World) (b:Nat) (rc0 mc0:Array Value) (d:Value) (N:Nat) (n:Int) (t:ByteArray) (kv xv lv:Value) (l:List Cel) (s:Nat) (nn:Int) (hs:s<18446744073709551616) (hb:w.heap[b]? =some (.cells (iW rc0 mc0 d N) 103 (0,0))) (hr4:rc0.size=4) (hm0:eQ (fun g=>w.heap.size<=g) w s nn [] mc0)
    (hl:∀V,w.grownBy V (some b)->bZ S V 4 lv (ivV l) l.length) (hN:l.length<=16383) (hT:fW w) (hne:some b≠some 1) (ks:List ByteArray) (htx:∀V,w.grownBy V (some b)->TxV V kv ks) (hkl:ks.length=l.length) (hkb:∀y∈ks,y.size<=3000):
    Calls Tryz.prog 96 #[.pointer (some ⟨b,0,none⟩),.agg (trC 5 n t kv xv),lv] w fun e w'=>e=.returned (.tuple #[])/\∃mc,eQ (fun g=>w.heap.size<=g) w' s nn (wG (ks.zip l)) mc/\w'.heap[b]? =some (.cells (iW rc0 mc d N) 103 (0,0))/\w.grownBy w' (some b):=by
  obtain⟨w1,hw1⟩:∃w1,w.alloc (.cells (trC 5 n t kv xv) 28)=w1:=⟨_,rfl⟩
  obtain⟨hb1,hx1,hs1⟩:=eA hw1;have hbl:=(gZ hb)
  have hkl':=hkl;have HBI:=iH ((hb1.block _ hbl).trans hb);have HB1:=iH hb1;have HBL:=iH hbl;have HXT:=iH hx1;have HM0:=iH (hm0.later hb1);have HTB:=iH (hT.below hb1);have HNE:=iH hne;have HR4:=iH hr4;have HCL:=iH (fun V (h:w1.grownBy V (some b))=>hl V (cJ (dO hb1 _) h));have HTX:=iH (fun V (h:w1.grownBy V (some b))=>htx V (cJ (dO hb1 _) h));have HKB:=iH hkb;have c0:w1.cell? ⟨w.heap.size,0,none⟩=some (.int .i64 5):=aK hx1 rfl;obtain⟨ad,cp,rfl,_⟩:=(hl w (dO (aY _ _) _)).shape;have hl63:(l.length:Int)<=16383:=by omega
  clear hb hl hx1 hr4 hb1 hbl hm0 hT hne htx hkb hkl;go_enter Tryz.func96,Tryz.ntmps96;go_upto_region 1 with fail
  clear hw1;go_wp2_with fail
  clear c0;go_loopw [6,7,18] (fun i6 p7 i wl=>∃(j:Nat) (mc:Array Value),j<=l.length/\i=.int .i64 (j:Int)/\(∃c,c=i6)/\(∃c,c=p7)/\Hid (wl.heap[b]? =some (.cells (iW rc0 mc d N) 103 (0,0)))/\Hid (eQ (fun g=>w.heap.size<=g) wl s nn (wG ((ks.zip l).take j)) mc)/\Hid (w1.grownBy wl (some b))) (fun _ _ i _=>l.length-(intOf i).toNat)
  case atStart=>exact⟨0,mc0,aQ _,rfl,⟨_,rfl⟩,⟨_,rfl⟩,HBI.out,HM0.out,dO (aY _ _) _⟩
  case round=>
    obtain⟨j,mc,hj,rfl,_,_,HBW,HMW,HG⟩:=hrel;by_cases hlt:j<l.length
    ·have hlt':(j:Int)<(l.length:Int):=by omega
     have i0:(0:Int)<=(j:Int):=by omega
     obtain⟨g,o,cp',hlv,hrg⟩:=aC4 (HCL.out wr HG.out) hlt;simp only[dR]at hlv;obtain⟨rfl,_,rfl⟩:=hlv;obtain⟨z,hz⟩:∃z,z=l[j]:=⟨_,rfl⟩
     rw[<-hz]at hrg;have HRG:=iH hrg;have cT0:wr.cell? ⟨w.heap.size,0,none⟩=some (.int .i64 5):=aK ((HG.out.block _ (gZ HXT.out) uKw).trans HXT.out) rfl;have cT:∀V,Below wr.heap.size wr V->V.cell? ⟨w.heap.size,0,none⟩=some (.int .i64 5):=fun V hV=>gS cT0 hV
     have HCT:=iH cT;obtain⟨w3,hw3⟩:∃w3:World,w3=w3:=⟨wr,rfl⟩
     have HZJ:=iH hz;clear hrg cT cT0 hw3 w3 hz;go_wp2_with (first
       |(refine aHM uAz 35 _ rfl g (o+j*4) rfl (aX z) _ HRG.out Tryz.underlying35 rfl aR ?_)
       |(refine bV rfl 35 _ _ rfl wr.heap.size (aX z) rfl rfl 35 _ (aF _ _) aR rfl (eU z) ?_
         intro w3 h3 k3;have hb3:Below wr.heap.size wr w3:=(Below.newly' wr (.cells #[.int .i64 0,.int .i64 0,.string ⟨#[]⟩,.pointer none] 35)).trans (k3.below (aE _));have cT3:w3.cell? ⟨w.heap.size,0,none⟩=some (.int .i64 5):=HCT.out w3 hb3;obtain⟨xb,hxb⟩:∃xb,xb=wr.heap.size:=⟨_,rfl⟩
         rw[<-hxb]at h3 ⊢;have HX3:=iH h3;have HB3:=iH (kW hb3 HBW.out);clear h3 k3 hxb))
     case' _=>skip
     all_goals
       have hjk:j<ks.length:=by omega
       obtain⟨kd,kcap,kb1,ko,hkv,k1,k2,_⟩:=HTX.out w3 (cJ HG.out (dO hb3 _));have hkd:=k1 uAu;have hck:=k2 j hjk;obtain⟨y,hy⟩:∃y,y=ks[j]:=⟨_,rfl⟩
       rw[<-hy]at hck;have hys:y.size<=3000:=by rw[hy];exact HKB.out _ (aO hjk)
       obtain⟨lk,hlk⟩:∃lk,lk=ks.length:=⟨_,rfl⟩
       rw[<-hlk]at hkv;subst hkd;have hcx:w3.cell? ⟨w.heap.size,3,none⟩=some (.slice (some ⟨kb1,ko,none⟩) lk kcap):=by
         rw[<-hkv];exact aK ((hb3.block _ (by have:=HG.out.size;have:=(gZ HXT.out);omega)).trans ((HG.out.block _ (gZ HXT.out) uKw).trans HXT.out)) rfl
       have HCK:=iH (And.intro hcx hck);have HY:=iH hy;have hjl:(j:Int)<(lk:Int):=by omega
       have hze:(ks.zip l)[j]'(by rw[dN];omega)=(y,z):=by rw[aAF,hy,HZJ.out]
       have hmw:=HMW.out.later hb3;have hri:=aA4 ((ks.zip l).take j);have hln:=(aBP ((ks.zip l).take j)).1;rw[aV]at hln;have HST:=iH (fun W (hW:Below w3.heap.size w3 W)=>aLn W s hs nn _ mc y z uAu (hmw.later hW) hri uAu ((HTB.out.grown (cJ HG.out (dO hb3 _)) HNE.out).below hW));have hzl:j<(ks.zip l).length:=by rw[dN];omega
       have htk:=aDf hzl;rw[hze]at htk;have HTK:=iH htk;have HZ:=iH (And.intro HR4.out hmw.size);have HB3':=iH hb3;have HKS:Hid (∀V,Below w3.heap.size w3 V->(V.rangeAt b 4 mc.toList/\V.heap[xb]? =some (.cells (aX z) 35 (0,0))/\V.cell? ⟨w.heap.size,3,none⟩=some (.slice (some ⟨kb1,ko,none⟩) lk kcap)/\V.cell? ⟨kb1,ko+j,none⟩=some (.string y))):=fun V hV=>⟨oV HZ.out.1 HZ.out.2 (kW hV HB3.out),kW hV HX3.out,gS HCK.out.1 hV,gS HCK.out.2 hV⟩
       have HW:Hid (Below w3.heap.size w3 w3.drew):=bE w3;clear cT3 htk hzl hze hri hln hmw hb3 hck hcx hkv hys hy hlk k1 k2;refine bL (S:=(fun V=>V.rangeAt b 4 mc.toList/\V.heap[xb]? =some (.cells (aX z) 35 (0,0))/\V.cell? ⟨w.heap.size,3,none⟩=some (.slice (some ⟨kb1,ko,none⟩) lk kcap)/\V.cell? ⟨kb1,ko+j,none⟩=some (.string y))) [14] hO uAw (fun hHeld=> ?_);refine tkA 0 26 (h:=?_);refine tkA 1 27 (h:=?_);(try simp only[pq]);refine tkA 2 28 (h:=?_);refine tkA 3 29 (h:=?_);(try simp only[pq]);refine tyA 4 30 (hy:=bT uAz 98 _ rfl b 4 rfl mc _ (fun w hw=>hw.1) Tryz.underlying98 rfl uMv) (h:=?_);refine tkA 5 31 (h:=?_);(try simp only[pq]);refine tkA 6 32 (h:=?_);refine tkA 7 33 (h:=?_);(try simp only[pq]);refine tkA 8 34 (h:=?_);refine tkA 9 35 (h:=?_);(try simp only[pq]);refine tyA 10 36 (hy:=aP uAz 35 _ rfl xb rfl (aX z) 35 (0,0) _ (fun w hw=>hw.2.1) Tryz.underlying35 rfl uFz) (h:=?_);(try simp only[pq]);refine tkO 11 (some 37) (h:=fun K hK=> ?_);go_simp;go_at_call 119;(with_reducible refine(HST.out _ uBy).mono ?_);rintro r w4 ⟨c',rfl,hr,hb⟩;have HR:=iH hr;have HSR:Hid (w3.heap.size<=_):=HW.out.size;replace HW:=iH (tW HW.out hb);clear hb hr;dsimp only;refine hK.out _ _ uAw (fun hHeld=> ?_);clear hK K;(try simp only[pq]);refine tkA 12 38 (h:=?_);refine tkA 13 39 (h:=?_);(try simp only[pq]);refine tkU 14 none (h:=fun K hK=> ?_);exact Aa7
    ·exact Ae2
theorem aEO {S:Nat->Prop} (w:World) (b:Nat) (rc0 mc0:Array Value) (d:Value) (N:Nat) (n:Int) (t:ByteArray) (kv xv lv:Value) (l:List Cel) (s:Nat) (nn:Int) (hs:s<18446744073709551616) (hb:w.heap[b]? =some (.cells (iW rc0 mc0 d N) 103 (0,0))) (hr4:rc0.size=4) (hm0:eQ (fun g=>w.heap.size<=g) w s nn [] mc0)
    (hl:∀V,w.grownBy V (some b)->bZ S V 4 lv (ivV l) l.length) (hN:l.length<=16383) (hT:fW w) (hne:some b≠some 1) (xs:List Tr) (hva:∀V,w.grownBy V (some b)->gC (fun _=>True) V xs l) (hvb:∀y∈xs,dW y):
    Calls Tryz.prog 96 #[.pointer (some ⟨b,0,none⟩),.agg (trC 6 n t kv xv),lv] w fun e w'=>e=.returned (.tuple #[])/\∃mc,eQ (fun g=>w.heap.size<=g) w' s nn (wG ((xs.map kB).zip l)) mc/\w'.heap[b]? =some (.cells (iW rc0 mc d N) 103 (0,0))/\w.grownBy w' (some b):=by
  obtain⟨w1,hw1⟩:∃w1,w.alloc (.cells (trC 6 n t kv xv) 28)=w1:=⟨_,rfl⟩
  obtain⟨hb1,hx1,hs1⟩:=eA hw1;have hbl:=(gZ hb)
  have hkl':(xs.map kB).length=l.length:=by rw[aH,fG (hva w (dO (aY _ _) _))]
  have HBI:=iH ((hb1.block _ hbl).trans hb);have HB1:=iH hb1;have HBL:=iH hbl;have HXT:=iH hx1;have HM0:=iH (hm0.later hb1);have HTB:=iH (hT.below hb1);have HNE:=iH hne;have HR4:=iH hr4;have HCL:=iH (fun V (h:w1.grownBy V (some b))=>hl V (cJ (dO hb1 _) h));have HVA:=iH (fun V (h:w1.grownBy V (some b))=>hva V (cJ (dO hb1 _) h));have HVB:=iH hvb;have c0:w1.cell? ⟨w.heap.size,0,none⟩=some (.int .i64 6):=aK hx1 rfl;obtain⟨ad,cp,rfl,_⟩:=(hl w (dO (aY _ _) _)).shape;have hl63:(l.length:Int)<=16383:=by omega
  clear hb hl hx1 hr4 hb1 hbl hm0 hT hne hva hvb;go_enter Tryz.func96,Tryz.ntmps96;go_upto_region 1 with fail
  clear hw1;go_wp2_with fail
  clear c0;go_loopw [6,7,18] (fun i6 p7 i wl=>∃(j:Nat) (mc:Array Value),j<=l.length/\i=.int .i64 (j:Int)/\(∃c,c=i6)/\(∃c,c=p7)/\Hid (wl.heap[b]? =some (.cells (iW rc0 mc d N) 103 (0,0)))/\Hid (eQ (fun g=>w.heap.size<=g) wl s nn (wG (((xs.map kB).zip l).take j)) mc)/\Hid (w1.grownBy wl (some b))) (fun _ _ i _=>l.length-(intOf i).toNat)
  case atStart=>exact⟨0,mc0,aQ _,rfl,⟨_,rfl⟩,⟨_,rfl⟩,HBI.out,HM0.out,dO (aY _ _) _⟩
  case round=>
    obtain⟨j,mc,hj,rfl,_,_,HBW,HMW,HG⟩:=hrel;by_cases hlt:j<l.length
    ·have hlt':(j:Int)<(l.length:Int):=by omega
     have i0:(0:Int)<=(j:Int):=by omega
     obtain⟨g,o,cp',hlv,hrg⟩:=aC4 (HCL.out wr HG.out) hlt;simp only[dR]at hlv;obtain⟨rfl,_,rfl⟩:=hlv;obtain⟨z,hz⟩:∃z,z=l[j]:=⟨_,rfl⟩
     rw[<-hz]at hrg;have HRG:=iH hrg;have cT0:wr.cell? ⟨w.heap.size,0,none⟩=some (.int .i64 6):=aK ((HG.out.block _ (gZ HXT.out) uKw).trans HXT.out) rfl;have cT:∀V,Below wr.heap.size wr V->V.cell? ⟨w.heap.size,0,none⟩=some (.int .i64 6):=fun V hV=>gS cT0 hV
     have HCT:=iH cT;obtain⟨w3,hw3⟩:∃w3:World,w3=w3:=⟨wr,rfl⟩
     have HZJ:=iH hz;clear hrg cT cT0 hw3 w3 hz;go_wp2_with (first
       |(refine aHM uAz 35 _ rfl g (o+j*4) rfl (aX z) _ HRG.out Tryz.underlying35 rfl aR ?_)
       |(refine bV rfl 35 _ _ rfl wr.heap.size (aX z) rfl rfl 35 _ (aF _ _) aR rfl (eU z) ?_
         intro w3 h3 k3;have hb3:Below wr.heap.size wr w3:=(Below.newly' wr (.cells #[.int .i64 0,.int .i64 0,.string ⟨#[]⟩,.pointer none] 35)).trans (k3.below (aE _));have cT3:w3.cell? ⟨w.heap.size,0,none⟩=some (.int .i64 6):=HCT.out w3 hb3;obtain⟨xb,hxb⟩:∃xb,xb=wr.heap.size:=⟨_,rfl⟩
         rw[<-hxb]at h3 ⊢;have HX3:=iH h3;have HB3:=iH (kW hb3 HBW.out);clear h3 k3 hxb))
     case' _=>skip
     all_goals
       have hjk:j<xs.length:=by have h:=hkl';rw[aH]at h;omega
       obtain⟨yt,hyt⟩:∃yt,yt=xs[j]:=⟨_,rfl⟩
       have HKY:Hid (∀W,Below w3.heap.size w3 W->Calls Tryz.prog 41 #[.agg (aX z)] W fun r w'=>r=.returned (.string (kB yt))/\Below W.heap.size W w'):=fun W hW=>by
         have hgW:=cJ (cJ HG.out (dO hb3 _)) (dO hW _);have hv:=tF (HVA.out W hgW) hjk hlt;rw[<-hyt,<-HZJ.out]at hv;exact xD W yt z (HVB.out yt (by rw[hyt];exact aO hjk)) hv (HTB.out.grown hgW HNE.out)
       have hys:(kB yt).size<=200000000:=(HVB.out yt (by rw[hyt];exact aO hjk)).kB;obtain⟨y,hy⟩:∃y,y=kB yt:=⟨_,rfl⟩
       rw[<-hy]at HKY hys;have hze:((xs.map kB).zip l)[j]'(by rw[dN];omega)=(y,z):=by rw[aAF,tD,<-hyt,<-hy,HZJ.out]
       have hmw:=HMW.out.later hb3;have hri:=aA4 (((xs.map kB).zip l).take j);have hln:=(aBP (((xs.map kB).zip l).take j)).1;rw[aV]at hln;have HST:=iH (fun W (hW:Below w3.heap.size w3 W)=>aLn W s hs nn _ mc y z uAu (hmw.later hW) hri uAu ((HTB.out.grown (cJ HG.out (dO hb3 _)) HNE.out).below hW));have hzl:j<((xs.map kB).zip l).length:=by rw[dN];omega
       have htk:=aDf hzl;rw[hze]at htk;have HTK:=iH htk;have HZ:=iH (And.intro HR4.out hmw.size);have HB3':=iH hb3;have HKS:Hid (∀V,Below w3.heap.size w3 V->(V.rangeAt b 4 mc.toList/\V.heap[xb]? =some (.cells (aX z) 35 (0,0)))):=fun V hV=>⟨oV HZ.out.1 HZ.out.2 (kW hV HB3.out),kW hV HX3.out⟩
       have HW:Hid (Below w3.heap.size w3 w3.drew):=bE w3;clear cT3 htk hzl hze hri hln hmw hb3 hyt hys hy;refine bL (S:=(fun V=>V.rangeAt b 4 mc.toList/\V.heap[xb]? =some (.cells (aX z) 35 (0,0)))) [11] hO uAw (fun hHeld=> ?_);refine tkA 0 40 (h:=?_);refine tkA 1 41 (h:=?_);(try simp only[pq]);refine tkA 2 42 (h:=?_);refine tkA 3 43 (h:=?_);(try simp only[pq]);refine tyA 4 44 (hy:=bT uAz 98 _ rfl b 4 rfl mc _ (fun w hw=>hw.1) Tryz.underlying98 rfl uMv) (h:=?_);refine tyA 5 45 (hy:=aP uAz 35 _ rfl xb rfl (aX z) 35 (0,0) _ (fun w hw=>hw.2) Tryz.underlying35 rfl uFz) (h:=?_);(try simp only[pq]);refine tyA 7 47 (hy:=aP uAz 35 _ rfl xb rfl (aX z) 35 (0,0) _ (fun w hw=>hw.2) Tryz.underlying35 rfl uFz) (h:=?_);(try simp only[pq]);refine tkO 6 (some 46) (h:=fun K hK=> ?_);go_simp;go_at_call 41;(with_reducible refine(HKY.out _ uBy).mono ?_);rintro r w6 ⟨rfl,hb⟩;replace HW:=iH (tW HW.out hb);clear hb;dsimp only;refine hK.out _ _ uAw (fun hHeld=> ?_);clear hK K;(try simp only[pq]);refine tkO 8 (some 48) (h:=fun K hK=> ?_);go_simp;go_at_call 119;(with_reducible refine(HST.out _ uBy).mono ?_);rintro r w4 ⟨c',rfl,hr,hb⟩;have HR:=iH hr;have HSR:Hid (w3.heap.size<=_):=HW.out.size;replace HW:=iH (tW HW.out hb);clear hb hr;dsimp only;refine hK.out _ _ uAw (fun hHeld=> ?_);clear hK K;(try simp only[pq]);refine tkA 9 49 (h:=?_);refine tkA 10 50 (h:=?_);(try simp only[pq]);refine tkU 11 none (h:=fun K hK=> ?_);exact Aa7
    ·exact Ae2
end Go.Proofs.YtengibnpebfblaaGreatDoor
