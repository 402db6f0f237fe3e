import Derived.Test.YtengibnpebfblaaGreatDoorQ0
import Derived.Test.YtengibnpebfblaaGreatDoorQ36
import Derived.Test.YtengibnpebfblaaGreatDoorQ39
import Derived.Test.YtengibnpebfblaaGreatDoorQ40
set_option maxRecDepth 1000000
set_option maxHeartbeats 8000000
set_option linter.unusedSimpArgs false
namespace Go.Proofs.YtengibnpebfblaaGreatDoor
open Go.RowKit
theorem aMy (a:Tr):∀(v:Value) (w:World) (d m:Nat),TrV w a v->pF 2000 a->jQ 3000 a->d<=65->m<=16384->Calls Tryz.prog 46 #[v,.int .i64 (d:Int),.int .i64 (m:Int)] w fun e w'=>e=.returned (.tuple #[.int .i64 ((gU a d m).1:Int),.int .i64 (gU a d m).2])/\Below w.heap.size w w':=by
 induction a using fS with
 |h k n t ks xs ih=>
  intro v w d m hv hfew htx hd hm;have hv0:=hv;obtain⟨kv,xv,rfl,ht,hk,hn,⟨kd,kcap,kb1,ko,rfl,k1,k2,k3⟩,ad,cap,bb,oo,rfl,h1,hmax,h2⟩:=hv.open';have hf1:=sI.1 hfew;have ht1:=eT.1 htx;simp only[Tr.t,Tr.ks,Tr.xs]at hf1 ht1;have hxm:(xs.length:Int)<=9223372036854775807:=by unfold maxLen at hmax;omega
  obtain⟨N,hN⟩:∃N,N=xs.length:=⟨_,rfl⟩
  obtain⟨lk,hlk⟩:∃lk,lk=ks.length:=⟨_,rfl⟩
  rw[<-hN]at h1 hxm hv0 ⊢;rw[<-hlk]at hv0 ⊢;obtain⟨w1,hw1⟩:∃w1,w.alloc (.cells (trC k n t (.slice kd lk kcap) (.slice ad N cap)) 28)=w1:=⟨_,rfl⟩
  obtain⟨hb1,hx1,hs1⟩:=eA hw1;have HXC:Hid (∀W,Below w1.heap.size w1 W->∀(i:Nat) (u:Value),(trC k n t (.slice kd lk kcap) (.slice ad N cap))[i]? =some u->W.cell? ⟨w.heap.size,i,none⟩=some u):=fun W hb i u hu=>aK ((kW hb hx1)) hu
  have HX1:=iH hx1;have HB0:=iH hb1;have HIH:=iH ih;have HLO:=iH h1;have HLC:=iH h2;have HPP:=iH (And.intro hf1.1 (And.intro hf1.2 (And.intro ht1.1 ht1.2.2)));obtain⟨eo,heo⟩:∃eo,eo=nQ (.nd k n t ks xs):=⟨_,rfl⟩
  have HOWN:Hid (∀W,Below w1.heap.size w1 W->Calls Tryz.prog 80 #[.agg (trC k n t (.slice kd lk kcap) (.slice ad N cap))] W fun e w'=>e=.returned (.int .i64 eo)/\Below W.heap.size W w'):=fun W hb=>by
   rw[heo];exact aNI W _ _ ((hv0.later hb1).later hb) hf1.1
  have hdef:gU (.nd k n t ks xs) d m=if 64<d then(m+1,7)else if 16384<m+1 then(m+1,8)else if eo≠0 then(m+1,eo)else if(gG xs (d+1) (m+1)).2≠0 then gG xs (d+1) (m+1)else if k=6/\¬((cV xs).map dG).Nodup then((gG xs (d+1) (m+1)).1,6)else((gG xs (d+1) (m+1)).1,0):=by
   rw[heo,gU]
  have hm2:(m:Int)<=16384:=by omega
  have hd2:(d:Int)<=65:=by omega
  have HEO:=iH heo;have HN0:=iH (And.intro hN hlk);have HDM:=iH (And.intro hd hm);have HW:Hid (Below w1.heap.size w1 w1):=aY _ _;have HM1:Hid (((m+1:Nat):Int)=(m:Int)+1):=by show _=_;omega
  clear hb1 hx1 hs1 ih h1 h2 hf1 ht1 hmax hv hv0 hfew htx hd hm k1 k2 k3 ht hk hn heo hN hlk;by_cases c1:64<d
  ·have HLT:Hid (gU (.nd k n t ks xs) d m=(m+1,7)):=by show _=_;rw[hdef,if_pos c1]
   exact Af3
  rw[if_neg c1]at hdef;by_cases c2:16384<m+1
  ·have HLT:Hid (gU (.nd k n t ks xs) d m=(m+1,8)):=by show _=_;rw[hdef,if_pos c2]
   have c2':(16384:Int)<(m:Int)+1:=by omega
   exact Af3
  rw[if_neg c2]at hdef;have c2':¬(16384:Int)<(m:Int)+1:=by omega
  by_cases c3:eo=0
  case neg=>
   have HLT:Hid (gU (.nd k n t ks xs) d m=(m+1,eo)):=by show _=_;rw[hdef,if_pos c3]
   clear hdef;go_enter Tryz.func46,Tryz.ntmps46;go_upto_region 1 with fail
   clear hw1;go_wp2_with (first
    |(refine bR rfl 28 _ rfl w.heap.size rfl 28 _ _ _ HX1.out Tryz.underlying28 rfl eF ?_)
    |(go_at_call 80;(with_reducible refine(HOWN.out _ HW.out).mono ?_);rintro r V ⟨rfl,hb⟩;replace HW:=iH (tW HW.out hb);clear hb))
   have hb:=tW HB0.out HW.out;go_ret2;exact⟨by rw[HLT.out];simp,hb⟩
  rw[if_neg (fun h=>h c3)]at hdef;subst c3;have HDEF:=iH hdef;clear hdef c2;go_enter Tryz.func46,Tryz.ntmps46;go_upto_region 1 with fail
  clear hw1;go_upto_region 9 with(first
   |(refine bR rfl 28 _ rfl w.heap.size rfl 28 _ _ _ HX1.out Tryz.underlying28 rfl eF ?_)
   |(go_at_call 80;(with_reducible refine(HOWN.out _ HW.out).mono ?_);rintro r w2 ⟨rfl,hb⟩;replace HW:=iH (tW HW.out hb);clear hb))
  have cx4:w2.cell? ⟨w.heap.size,4,none⟩=some (.slice ad N cap):=HXC.out w2 HW.out 4 _ rfl;go_wp2_with fail
  clear cx4;have HW0:=HW;have hN4:Hid (True):=trivial;go_loopw [2,10,11,34] (fun mi p10 e11 i wl=>∃(j mj:Nat),j<=N/\i=.int .i64 (j:Int)/\mi=.int .i64 (mj:Int)/\(∃c,c=p10)/\(∃c,c=e11)/\Hid (mj<=16384/\gG xs (d+1) (m+1)=gG (xs.drop j) (d+1) mj/\∀q (_:q<j) (h2:q<xs.length),OkT xs[q]/\iX xs[q]<=64/\fU xs[q]<=16384)/\Hid (Below w1.heap.size w1 wl)) (fun _ _ _ i _=>N-(intOf i).toNat)
  case atStart=>exact⟨0,m+1,aQ _,rfl,by rw[HM1.out],⟨_,rfl⟩,⟨_,rfl⟩,⟨by omega,by rw[rM],fun q h=>absurd h (dD q)⟩,HW0.out⟩
  case round=>
   clear HW0 HW;obtain⟨j,mj,hj,rfl,rfl,_,_,HI,HW⟩:=hrel;have hmj:(mj:Int)<=16384:=by have:=HI.out.1;omega
   by_cases hlt:j<N
   ·have hlt':(j:Int)<(N:Int):=by omega
    have i0:(0:Int)<=(j:Int):=by omega
    have hlx:j<xs.length:=by rw[<-HN0.out.1];exact hlt
    have had:ad=some ⟨bb,oo,none⟩:=HLO.out uAu;subst had;obtain⟨cs,q1,q2,q3⟩:=HLC.out j hlx;have hmem:=aO hlx;obtain⟨y,hy⟩:∃y,y=xs[j]:=⟨_,rfl⟩
    have hd1:gG (xs.drop j) (d+1) mj=if(gU y (d+1) mj).2≠0 then gU y (d+1) mj else gG (xs.drop (j+1)) (d+1) (gU y (d+1) mj).1:=by
     rw[dZ hlx,gG,hy]
    have hlo:=yU y (d+1) mj;have HYE:=iH hy;rw[<-hy]at q3 hmem;obtain⟨k',n',t',pa,pl,pc,qa,ql,qc,rfl⟩:=q3.cells;have HLOW:=iH (fun W (hb:Below w1.heap.size w1 W)=>tW HB0.out hb);have HR:=iH (show wr.rangeAt bb (oo+j*5) (trC k' n' t' (.slice pa pl pc) (.slice qa ql qc)).toList from fun i v hv=>((HLOW.out _ HW.out).cell (aM w _ (q2 i v hv))).trans (q2 i v hv));obtain⟨L,hL⟩:∃L,L=gU y (d+1) mj:=⟨_,rfl⟩
    rw[<-hL]at hd1 hlo;have HCL:Hid (∀W,Below w1.heap.size w1 W->Calls Tryz.prog 46 #[.agg (trC k' n' t' (.slice pa pl pc) (.slice qa ql qc)),.int .i64 ((d:Int)+1),.int .i64 (mj:Int)] W fun e w'=>e=.returned (.tuple #[.int .i64 (L.1:Int),.int .i64 L.2])/\Below W.heap.size W w'):=fun W hW=>by
     have h:=HIH.out y hmem _ W (d+1) mj (q3.later (HLOW.out W hW)) (HPP.out.2.1 y hmem) (HPP.out.2.2.2 y hmem) uAu uAu;rw[<-hL]at h;exact h
    have HD1:=iH hd1;have HLK:=iH hlo;clear q1 q2 q3 hmem hy hd1 hlo hL;obtain⟨L1,L2⟩:=L;by_cases e0:L2=0
    ·subst e0
     have hl1:=HLK.out.2 rfl;have hok:=HLK.out.1.1 rfl;have hL1:(L1:Int)<=16384:=by simp only at hl1;omega
     have HL1:Hid (L1<=16384):=by show _<=_;omega
     have HOKY:=iH hok;have hnx:gG xs (d+1) (m+1)=gG (xs.drop (j+1)) (d+1) L1:=by
      rw[HI.out.2.1,HD1.out,if_neg uBu]
     have HNX:=iH hnx;clear hl1 hok hnx;go_upto_region 12 with(first
      |(refine lM uAz _ rfl bb (oo+j*5) rfl (trC k' n' t' (.slice pa pl pc) (.slice qa ql qc)) HR.out rfl ?_)
      |(refine bV rfl 28 _ _ rfl wr.heap.size (trC k' n' t' (.slice pa pl pc) (.slice qa ql qc)) rfl rfl 28 (trC 0 0 ⟨#[]⟩ (.slice none 0 0) (.slice none 0 0)) (aF _ _) eF rfl uAy ?_;intro w3 h3 k3))
     have hb3:Below wr.heap.size wr w3:=(Below.newly' _ _).trans (k3.below (aE _));obtain⟨X,hX⟩:∃X,X=wr.heap.size:=⟨_,rfl⟩
     have HX3:=iH h3;rw[<-hX]at HX3 ⊢;replace HW:=iH (tW HW.out hb3);clear h3 k3 hb3 hX;go_wp2_with (first
      |(refine bR rfl 28 _ rfl X rfl 28 _ _ _ HX3.out Tryz.underlying28 rfl eF ?_)
      |(go_at_call 46;(with_reducible refine(HCL.out _ HW.out).mono ?_);rintro r V ⟨rfl,hb⟩;replace HW:=iH (tW HW.out hb);clear hb))
     go_roundw
     case rel=>
      refine⟨j+1,L1,by omega,by go_num,rfl,⟨_,rfl⟩,⟨_,rfl⟩,⟨HL1.out,HNX.out,fun q h h2=> ?_⟩,HW.out⟩;rcases cZ q j with h3|h3
      ·exact HI.out.2.2 q h3 h2
      ·obtain rfl:q=j:=by omega
       have h4:=HOKY.out;rw[<-HYE.out];exact⟨h4.1,by omega,by omega⟩
     case measure=>simp[intOf];omega
    ·have HLT:Hid (gU (.nd k n t ks xs) d m=(L1,L2)):=by
      show _=_;have h1:gG xs (d+1) (m+1)=(L1,L2):=by rw[HI.out.2.1,HD1.out,if_pos e0]
      rw[HDEF.out,h1,if_pos e0]
     go_upto_region 12 with(first
      |(refine lM uAz _ rfl bb (oo+j*5) rfl (trC k' n' t' (.slice pa pl pc) (.slice qa ql qc)) HR.out rfl ?_)
      |(refine bV rfl 28 _ _ rfl wr.heap.size (trC k' n' t' (.slice pa pl pc) (.slice qa ql qc)) rfl rfl 28 (trC 0 0 ⟨#[]⟩ (.slice none 0 0) (.slice none 0 0)) (aF _ _) eF rfl uAy ?_;intro w3 h3 k3))
     have hb3:Below wr.heap.size wr w3:=(Below.newly' _ _).trans (k3.below (aE _));obtain⟨X,hX⟩:∃X,X=wr.heap.size:=⟨_,rfl⟩
     have HX3:=iH h3;rw[<-hX]at HX3 ⊢;replace HW:=iH (tW HW.out hb3);clear h3 k3 hb3 hX;go_wp2_with (first
      |(refine bR rfl 28 _ rfl X rfl 28 _ _ _ HX3.out Tryz.underlying28 rfl eF ?_)
      |(go_at_call 46;(with_reducible refine(HCL.out _ HW.out).mono ?_);rintro r V ⟨rfl,hb⟩;replace HW:=iH (tW HW.out hb);clear hb))
     exact Ak8
   ·obtain rfl:N=j:=by omega
    have hlt':¬(N:Int)<(N:Int):=by omega
    have hLL:gG xs (d+1) (m+1)=(mj,0):=by
     rw[HI.out.2.1,eD (by rw[<-HN0.out.1];exact aE _),gG]
    have hLT:gU (.nd k n t ks xs) d m=if k=6/\¬((cV xs).map dG).Nodup then(mj,6)else(mj,0):=by
     rw[HDEF.out,hLL,if_neg uBu]
    have HOK:Hid (∀q (_:q<N) (h2:q<xs.length),OkT xs[q]/\iX xs[q]<=64/\fU xs[q]<=16384):=HI.out.2.2;have HKN:Hid (N=xs.length/\N<=16384):=⟨HN0.out.1,by
     have h0:∀(l:List Tr) (dd mm:Nat),(gG l dd mm).2=0->mm<=16384->mm+l.length<=(gG l dd mm).1/\(gG l dd mm).1<=16384:=by
      intro l;induction l with
      |nil=>intro dd mm _ h;rw[gG];simpa using h
      |cons x r ihr=>
       intro dd mm h hmm;rw[gG]at h ⊢;by_cases c:(gU x dd mm).2=0
       ·rw[if_neg (fun h=>h c)]at h ⊢
        have h5:=(yU x dd mm).2 c;have h6:=(yU x dd mm).1.1 c;have h7:=aE3 x;have h8:=ihr dd (gU x dd mm).1 h uAu;rw[aL];omega
       ·rw[if_pos c]at h
        exact absurd h c
     have h9:=h0 xs (d+1) (m+1) (by rw[hLL]) uAu;rw[hLL]at h9;have:=HN0.out.1;simp only at h9;omega⟩
    clear hLL HI HDEF;by_cases c6:k=6
    case neg=>
     rw[if_neg (fun h=>c6 h.1)]at hLT;have HLT:=iH hLT;have cx0:wr.cell? ⟨w.heap.size,0,none⟩=some (.int .i64 k):=HXC.out wr HW.out 0 _ rfl;clear hLT;go_wp2_with fail
     exact Ak8
    subst c6;have HLT:=iH hLT;clear hLT;have HOKS:=HOK;have cx0:wr.cell? ⟨w.heap.size,0,none⟩=some (.int .i64 6):=HXC.out wr HW.out 0 _ rfl;have cx4:wr.cell? ⟨w.heap.size,4,none⟩=some (.slice ad N cap):=HXC.out wr HW.out 4 _ rfl;have HK0:Hid (dC w1.heap.size 9 1 (.slice none 0 0) (((xs.take 0).map fun x=>kB (cU x)).map fun y=>(#[.string y]:Array Value)) wr):=by
     show dC _ _ _ _ _ _;rw[eB];exact dC.nil HW.out.size
    go_wp2_with fail
    clear cx0 cx4;have HWA:=HW;go_loopw [12,14,58] (fun kv p14 i wl=>∃q:Nat,q<=N/\i=.int .i64 (q:Int)/\(∃c,c=p14)/\Hid (dC w1.heap.size 9 1 kv (((xs.take q).map fun x=>kB (cU x)).map fun y=>(#[.string y]:Array Value)) wl)/\Hid (Below w1.heap.size w1 wl)) (fun _ _ i _=>N-(intOf i).toNat)
    case atStart=>exact⟨0,aQ _,rfl,⟨_,rfl⟩,HK0.out,HWA.out⟩
    case round=>
     rename_i kv p14 i58 wl2
     clear HK0 HWA HW;obtain⟨q,hq,hi58,_,HRW,HW⟩:=hrel;subst hi58;by_cases hqN:q<N
     ·have hqN':(q:Int)<(N:Int):=by omega
      have q0:(0:Int)<=(q:Int):=by omega
      have hqx:q<xs.length:=by rw[<-HKN.out.1];exact hqN
      have had:ad=some ⟨bb,oo,none⟩:=HLO.out uAu;subst had;obtain⟨cs,c1,c2,c3⟩:=HLC.out q hqx;obtain⟨y,hy⟩:∃y,y=xs[q]:=⟨_,rfl⟩
      have HYE:=iH hy;have hp:=HOKS.out q hqN hqx;rw[<-hy]at c3 hp;obtain⟨k',n',t',pa,pl,pc,qa,ql,qc,rfl⟩:=c3.cells;have HLOW:=iH (fun W (hb:Below w1.heap.size w1 W)=>tW HB0.out hb);have HR:=iH (show wr.rangeAt bb (oo+q*5) (trC k' n' t' (.slice pa pl pc) (.slice qa ql qc)).toList from fun i v hv=>((HLOW.out _ HW.out).cell (aM w _ (c2 i v hv))).trans (c2 i v hv));have htx:=HPP.out.2.2.2 _ (aO hqx);rw[<-hy]at htx;have HYB:=iH (lG hp.1 hp.2.1 hp.2.2 (oG _ _ c3) htx);have HCL:Hid (∀W,Below w1.heap.size w1 W->Calls Tryz.prog 12 #[.agg (trC k' n' t' (.slice pa pl pc) (.slice qa ql qc))] W fun e w'=>∃c,e=.returned (.agg c)/\c.size=5/\TrS (fun g=>W.heap.size<=g) w' (cU y) (.agg c)/\Below W.heap.size W w'):=fun W hW=>aBl y _ W (c3.later (HLOW.out W hW)) hp.1 hp.2.1 hp.2.2 htx
      obtain⟨ky,hky⟩:∃ky,ky=kB (cU y):=⟨_,rfl⟩
      have HKY:Hid (∀W c,TrV W (cU y) (.agg c)->Calls Tryz.prog 38 #[.agg c] W fun r w'=>r=.returned (.string ky)/\Below W.heap.size W w'):=fun W c hc=>by rw[hky];exact aBk (cU y) _ W hc HYB.out
      have HKE:=iH hky;clear c1 c2 c3 hy hp htx hky;go_upto_region 23 with(first
       |(refine lM uAz _ rfl bb (oo+q*5) rfl (trC k' n' t' (.slice pa pl pc) (.slice qa ql qc)) HR.out rfl ?_)
       |(refine bV rfl 28 _ _ rfl wr.heap.size (trC k' n' t' (.slice pa pl pc) (.slice qa ql qc)) rfl rfl 28 (trC 0 0 ⟨#[]⟩ (.slice none 0 0) (.slice none 0 0)) (aF _ _) eF rfl uAy ?_;intro w3 h3 k3))
      have hb3:Below wr.heap.size wr w3:=(Below.newly' _ _).trans (k3.below (aE _));obtain⟨X,hX⟩:∃X,X=wr.heap.size:=⟨_,rfl⟩
      have HX3:=iH h3;rw[<-hX]at HX3 ⊢;replace HRW:=iH (HRW.out.later hb3);replace HW:=iH (tW HW.out hb3);clear h3 k3 hb3 hX;go_wp2_with (first
       |(refine bR rfl 28 _ rfl X rfl 28 _ _ _ HX3.out Tryz.underlying28 rfl eF ?_)
       |(go_at_call 12;(with_reducible refine(HCL.out _ HW.out).mono ?_);rintro r w4 ⟨yc,rfl,h5,hyt,hb⟩;have HYT:=iH hyt.trv;replace HRW:=iH (HRW.out.later hb);replace HW:=iH (tW HW.out hb);clear hb h5 hyt)
       |(go_at_call 38;(with_reducible refine(HKY.out _ _ HYT.out).mono ?_);rintro r w5 ⟨rfl,hb⟩;replace HRW:=iH (HRW.out.later hb);replace HW:=iH (tW HW.out hb);clear hb)
       |(refine cW rfl fun _ hK=>jN 25 9 _ _ rfl (by_:=16) (z:=.string ⟨#[]⟩) rfl (HRW.out.later (Below.newly' w5 (.cells #[.string ky] 9))) rfl (aG2 (aF w5 (.cells #[.string ky] 9))) aHF aFq Tryz.underlying25 uK rfl uAv (by have:=HKN.out.2;simp;omega) uAv ?_;intro v7 w7 hr hg;refine hK _ _ ?_;have HFI:=iH hr;have HBF:=iH ((HW.out.trans ((Below.newly' w5 (.cells #[.string ky] 9)).mono HW.out.size)).trans ((HRW.out.later (Below.newly' w5 (.cells #[.string ky] 9))).below' hg (aE _) (by have:=HW.out.size;simp;omega)));clear hr hg hK))
      have hnx:dC w1.heap.size 9 1 v7 (((xs.take (q+1)).map fun x=>kB (cU x)).map fun y=>(#[.string y]:Array Value)) w7:=by
       rw[aS hqx,bQ,bQ,<-HYE.out];have h:=HFI.out;rw[HKE.out]at h;exact h
      go_roundw
      case rel=>exact⟨q+1,by omega,by go_num,⟨_,rfl⟩,hnx,HBF.out⟩
      case measure=>simp[intOf];omega
     ·obtain rfl:N=q:=by omega
      have hqN':¬(N:Int)<(N:Int):=by omega
      obtain⟨KL,hKL⟩:∃KL,KL=(xs.map fun x=>kB (cU x)):=⟨_,rfl⟩
      have hrw:=HRW.out;rw[aZ (by rw[<-HKN.out.1];exact aE _),<-hKL]at hrw;have hkl:KL.length=N:=by rw[hKL,aH];exact HKN.out.1.symm
      obtain⟨ga,gc,hgv⟩:=hrw.own.shape';rw[aH,hkl]at hgv;subst hgv;have hls:=hrw.own.lsT;have hcel:∀j (hj:j<KL.length),∃g o,ga=some ⟨g,o,none⟩/\wr.cell? ⟨g,o+j,none⟩=some (.string KL[j]):=fun j hj=>by
       obtain⟨g,o,c,e,_,h⟩:=hls.cell uPz;have h2:=h j (.string KL[j]) (by rw[pX,List.getElem?_map,List.getElem?_eq_getElem hj];rfl);injection e with e1 e2 e3;exact⟨g,o,e1,h2⟩
      have HCEL:=iH hcel;have HNDK:Hid ((((cV xs).map dG).Nodup↔KL.Nodup)):=by
       show _↔_;rw[hKL,<-aBy,fJ,kC];rfl
      have HKLL:=iH hkl;obtain⟨wz,hwz⟩:∃wz,wz=wr:=⟨_,rfl⟩
      have HWZ:Hid (Below wz.heap.size wz wr):=by show Below _ _ _;rw[hwz];exact aY _ _
      have HWB:Hid (Below w1.heap.size w1 wz):=by show Below _ _ _;rw[hwz];exact HW.out
      rw[<-hwz]at HCEL;clear hrw hls hcel hkl hKL HRW HW hwz;go_wp2_with fail
      go_loopw [15,16,71,75] (fun a3 a4 i a71 wl=>∃j:Nat,j<=N/\i=.int .i64 (j:Int)/\(∃c,c=a3)/\(∃c,c=a4)/\(∃c,c=a71)/\Hid (KL.take j).Nodup/\Hid (Below wz.heap.size wz wl)) (fun _ _ i _ _=>N-(intOf i).toNat)
      case atStart=>exact⟨0,aQ _,rfl,⟨_,rfl⟩,⟨_,rfl⟩,⟨_,rfl⟩,by show List.Nodup _;simp,HWZ.out⟩
      case round=>
       rename_i a15 a16 a71 a75 wl3
       clear HWZ;obtain⟨j,hj,hi71,_,_,_,HND,HB⟩:=hrel;subst hi71;by_cases hlt:j<N
       ·have hlt':(j:Int)<(N:Int):=by omega
        have i0:(0:Int)<=(j:Int):=by omega
        have hjk:j<KL.length:=by rw[HKLL.out];exact hlt
        obtain⟨g,o,rfl,hcj⟩:=HCEL.out j hjk;obtain⟨y,hy⟩:∃y,y=KL[j]:=⟨_,rfl⟩
        rw[<-hy]at hcj;have HYE:=iH hy;have HCY:=iH hcj;have HBR:=HB;clear HB hy hcj;go_wp2_with fail
        go_loopw [16,75] (fun a4 i wl=>∃q:Nat,q<=j/\i=.int .i64 (q:Int)/\(∃c,c=a4)/\Hid (∀q' (h:q'<q) (h2:q'<KL.length),KL[q']≠y)/\Hid (Below wz.heap.size wz wl)) (fun _ i _=>j-(intOf i).toNat)
        case atStart=>exact⟨0,aQ _,rfl,⟨_,rfl⟩,(fun q' h=>absurd h (dD q')),HBR.out⟩
        case round=>
         rename_i b16 b75 wl4
         clear HBR;obtain⟨q,hq,hi75,_,HNE,HB⟩:=hrel;subst hi75;by_cases hqj:q<j
         ·have hqj':(q:Int)<(j:Int):=by omega
          have q0:(0:Int)<=(q:Int):=by omega
          have hql:(q:Int)<(N:Int):=by omega
          have hqk:q<KL.length:=by omega
          obtain⟨g',o',e',hcz⟩:=HCEL.out q hqk;injection e' with e';injection e' with e1 e2 e3;subst e1 e2;obtain⟨z,hz⟩:∃z,z=KL[q]:=⟨_,rfl⟩
          have HZE:=iH hz;rw[<-hz]at hcz;have ccz:_=some (Value.string z):=(HB.out.cell (aM wz _ hcz)).trans hcz;have ccy:_=some (Value.string y):=(HB.out.cell (aM wz _ HCY.out)).trans HCY.out;clear hcz hz;by_cases e:y=z
          ·have qy:(y.toList==z.toList)=true:=by rw[e];exact tA _
           have hdup:¬((cV xs).map dG).Nodup:=fun h=>by
            have h1:KL[q]=KL[j]:=by rw[<-HZE.out,<-HYE.out,e]
            exact(eK.1 (HNDK.out.1 h)) q j hqk hjk hqj h1
           have HRE:Hid (gU (.nd 6 n t ks xs) d m=(mj,6)):=by
            show _=_;rw[HLT.out,if_pos ⟨by first|rfl|trivial,hdup⟩]
           clear e hdup;go_wp2_with (go_quiet (fail))
           go_ret2;exact⟨by rw[HRE.out];rfl,(tW HB0.out HWB.out).trans ((HB.out.trans ((Below.drewMany (aY _ _) _).mono HB.out.size)).mono (tW HB0.out HWB.out).size)⟩
          ·exact Ab3
         ·obtain rfl:q=j:=by omega
          have hqj':¬(q:Int)<(q:Int):=by omega
          have HN2:Hid (KL.take (q+1)).Nodup:=by
           exact Ad2
          exact Ag0
       ·obtain rfl:j=N:=by omega
        have hlt':¬(j:Int)<(j:Int):=by omega
        have hnd:=HND.out;rw[<-HKLL.out,eN]at hnd;have HRE:Hid (gU (.nd 6 n t ks xs) d m=(mj,0)):=by
         show _=_;rw[HLT.out,if_neg (fun h=>h.2 (HNDK.out.2 hnd))]
        clear hnd;go_wp2_with fail
        go_ret2;exact⟨by rw[HRE.out];rfl,(tW HB0.out HWB.out).trans (HB.out.mono (tW HB0.out HWB.out).size)⟩
theorem aKv (a:Tr) (v:Value) (w:World) (hv:TrV w a v) (hfew:pF 2000 a) (htx:jQ 3000 a):Calls Tryz.prog 20 #[v] w fun e w'=>e=.returned (.int .i64 (oX a))/\Below w.heap.size w w':=by
 obtain⟨ak,an,att,aa,al,ac,ad,am,ae,rfl⟩:=kG hv;obtain⟨w1,hw1⟩:∃w1,w.alloc (.cells (trC ak an att (.slice aa al ac) (.slice ad am ae)) 28)=w1:=⟨_,rfl⟩
 obtain⟨hb1,hx1,hs1⟩:=eA hw1;have HX1:=iH hx1;have HB1:=iH hb1;have HW:Hid (Below w1.heap.size w1 w1):=aY _ _;have HLK:Hid (∀W,Below w1.heap.size w1 W->Calls Tryz.prog 46 #[.agg (trC ak an att (.slice aa al ac) (.slice ad am ae)),.int .i64 1,.int .i64 0] W fun e w'=>e=.returned (.tuple #[.int .i64 ((gU a 1 0).1:Int),.int .i64 (oX a)])/\Below W.heap.size W w'):=fun W hb=>aMy a _ W 1 0 ((hv.later hb1).later hb) hfew htx uAv uAv
 clear hb1 hx1 hs1 hv hfew htx;go_enter Tryz.func20,Tryz.ntmps20;go_upto_region 1 with fail
 clear hw1;go_wp2_with (first
  |(refine bR rfl 28 _ rfl w.heap.size rfl 28 _ _ _ HX1.out Tryz.underlying28 rfl eF ?_)
  |(go_at_call 46;(with_reducible refine(HLK.out _ HW.out).mono ?_);rintro r V ⟨rfl,hb⟩;replace HW:=iH (tW HW.out hb);clear hb))
 have hb:=tW HB1.out HW.out;go_ret;first
  |exact⟨rfl,hb⟩
  |exact⟨trivial,hb⟩
theorem aM4 (a:Tr):aEy a:=fS (P:=aEy) (fun k n t ks xs ih=>aJP (.nd k n t ks xs) ih) a
theorem aJM (a:Tr):aLW a:=fS (P:=aLW) (fun k n t ks xs ih=>aNw (.nd k n t ks xs) ih) a
theorem aKx:(Tryz.prog.info? 125).map (·.size)=some 3:=by kernel_rfl
theorem va_Of (a:Tr) (v:Value) (w:World) (s:Nat) (bb:Int) (hv:TrV w a v) (hfew:pF 2000 a) (htxt:jQ 3000 a) (hnod:fU a<=100000) (hs:s<18446744073709551616) (hT:fW w):
  Calls Tryz.prog 36 #[.agg #[.int .u64 (s:Int),.int .i64 bb],v] w fun e w'=>∃y,e=.returned (.tuple #[.agg (aX y),.int .i64 (oX a)])/\VAt (fun g=>w.heap.size<=g) w' (if oX a=0 then cU a else iE) y/\Below w.heap.size w w':=by
 obtain⟨k,n,t,ks,xs⟩:=a;have hv0:=hv;obtain⟨kv,xv,rfl,ht,_,_,⟨kd,kcap,kb1,ko,rfl,k1,k2,k3⟩,ad,cap,bt,oo,rfl,h1,hmax,h2⟩:=hv.open';obtain⟨A,hA⟩:∃A,A=Tr.nd k n t ks xs:=⟨_,rfl⟩
 obtain⟨lk,hlk⟩:∃lk,lk=ks.length:=⟨_,rfl⟩
 obtain⟨lx,hlx⟩:∃lx,lx=xs.length:=⟨_,rfl⟩
 rw[<-hA,<-hlk,<-hlx]at hv0;rw[<-hA]at hfew htxt hnod;rw[<-hA,<-hlk,<-hlx];obtain⟨R,hR⟩:∃R,R=(if oX A=0 then cU A else iE):=⟨_,rfl⟩
 rw[<-hR];obtain⟨w1,hw1⟩:∃w1,((w.alloc (.cells #[.int .u64 (s:Int),.int .i64 bb] 24)).alloc (.cells (trC k n t (.slice kd lk kcap) (.slice ad lx cap)) 28)).alloc (.cells #[.int .i64 0,.int .i64 0,.string ⟨#[]⟩,.pointer none] 35)=w1:=⟨_,rfl⟩
 obtain⟨hb1,hc1,hx1,hr1,hs1⟩:=xG hw1;have hVL:∀V,Below w1.heap.size w1 V->V.heap[w1.heap.size]? =some (.cells #[.int .u64 (s:Int),.int .i64 bb,.int .i64 0] 125 (0,0))->Calls Tryz.prog 66 #[.pointer (some ⟨w1.heap.size,0,none⟩),.agg (trC k n t (.slice kd lk kcap) (.slice ad lx cap)),.int .i64 1] V fun e w'=>∃y,e=.returned (.tuple #[.agg (aX y),.int .i64 (oX A)])/\VAt (fun g=>V.heap.size<=g) w' R y/\V.grownBy w' (some w1.heap.size):=fun V hV hr=>by
  rw[hR];exact(aJM A _ V w1.heap.size s bb 1 0 (hv0.later (tW hb1 hV)) hfew htxt hnod hr hs (hT.below (tW hb1 hV)) (fun e=>by have:=aN e;omega) uAu uAu).mono fun e w' ⟨y,h1,h2,_,h3⟩=>⟨y,h1,h2,h3⟩
 have HVL:=iH hVL;have HC1:=iH hc1;have HX1:=iH hx1;have HR1:=iH hr1;have HB1:=iH hb1;have HS1:=iH hs1;clear hVL hc1 hx1 hr1 hb1 hs1 hv hv0 hfew htxt hnod hs hT h1 h2 k1 k2 hA hlk hlx hR;go_enter Tryz.func36,Tryz.ntmps36;go_upto_region 1 with fail
 clear hw1;go_wp2_with (first
  |(refine bR rfl 24 _ rfl w.heap.size rfl 24 _ _ _ HC1.out Tryz.underlying24 rfl aCc ?_)
  |(refine bV rfl 125 _ _ rfl w1.heap.size #[.int .u64 (s:Int),.int .i64 bb,.int .i64 0] rfl rfl 125 #[.int .u64 0,.int .i64 0,.int .i64 0] (aF _ _) aKx rfl uAy ?_;intro w2 h2 k2;have hb2:Below w1.heap.size w1 w2:=(Below.newly' _ _).trans (k2.below (aE _));have HX2:=iH (kW hb2 HX1.out);have HR2:=iH (kW hb2 HR1.out);have HB2:=iH hb2;have HQ2:=iH h2;clear hb2 h2 k2)
  |(refine bR rfl 28 _ rfl (w.heap.size+1) rfl 28 _ _ _ HX2.out Tryz.underlying28 rfl jF ?_)
  |(go_at_call 66;(with_reducible refine(HVL.out _ HB2.out HQ2.out).mono ?_);rintro e w3 ⟨y,rfl,hy,hg⟩;have HR3:=iH ((hg.block _ (gZ HR2.out) (fun e=>by have:=aN e;have:=HS1.out;omega)).trans HR2.out);have HY:=iH hy;have HG:=iH hg;clear hy hg)
  |(refine bV rfl 35 _ _ rfl (w.heap.size+2) (aX y) rfl rfl 35 _ HR3.out aR rfl (eU y) ?_;intro w9 h9 k9))
 have hs1:=HS1.out;have hsz:=HB2.out.size;have hb3:Below w.heap.size w w3:=(tW HB1.out HB2.out).grown HG.out (by have:=HB1.out.size;omega) fun k e=>by have:=aN e;omega
 refine bF (bU rfl _ _ (w.heap.size+2) 35 _ (0,0) _ rfl h9 Tryz.underlying35 rfl aR) rfl ⟨y,rfl,(HY.out.imp (Kq.only k9 ?_) fun g h _=> ?_),hb3.trans (k9.below uAu)⟩
 ·intro h
  omega
 ·omega
end Go.Proofs.YtengibnpebfblaaGreatDoor
