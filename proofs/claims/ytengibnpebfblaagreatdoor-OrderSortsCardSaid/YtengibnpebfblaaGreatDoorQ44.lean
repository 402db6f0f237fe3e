import Derived.Test.YtengibnpebfblaaGreatDoorQ0
import Derived.Test.YtengibnpebfblaaGreatDoorQ42
import Derived.Test.YtengibnpebfblaaGreatDoorQ43
set_option maxRecDepth 1000000
set_option maxHeartbeats 8000000
set_option linter.unusedSimpArgs false
namespace Go.Proofs.YtengibnpebfblaaGreatDoor
open Go.RowKit
theorem aMO (l m:List Tr) (v u:Value) (w:World) (hv:lU (fun _=>True) w v l) (hu:sV w u m) (hT:fW w) (R:Bool) (hR:R=true↔l=m):Calls Tryz.prog 24 #[v,u] w fun e w'=>e=.returned (.bool R)/\Below w.heap.size w w':=by
 obtain⟨a,cap,b,oo,rfl,hmax,ha,hr⟩:=hv;obtain⟨a',cap',b',oo',rfl,hmax',ha',hr'⟩:=hu;by_cases hlen:l.length=m.length
 case neg=>
  have c5:¬(l.length:Int)=(m.length:Int):=by omega
  obtain rfl:R=false:=iM.2 fun h=>hlen (by rw[hR.1 h])
  clear hR hlen ha hr ha' hr' hT hmax hmax';go_enter Tryz.func24,Tryz.ntmps24;go_wp2_with fail
  go_ret;exact⟨rfl,aY _ _⟩
 obtain⟨N,hN⟩:∃N,N=l.length:=⟨_,rfl⟩
 rw[<-hN]at hlen;rw[<-hN,<-hlen];have hn4:(N:Int)<=9223372036854775807:=by unfold maxLen at hmax;omega
 have HNL:=iH hN;have HRR:=iH hR;have HNM:=iH hlen;have HA:=iH ha;have HA':=iH ha';have HR:=iH hr;have HR':=iH hr';have HT0:=iH (fun W (hb:Below w.heap.size w W)=>hT.below hb);clear hR hN hlen ha hr ha' hr' hmax hmax' hT;go_enter Tryz.func24,Tryz.ntmps24;go_wp2_with fail
 go_loopw [13] (fun i W=>∃j:Nat,j<=N/\i=.int .i64 (j:Int)/\(∀q (h:q<l.length) (h':q<m.length),q<j->l[q]=m[q])/\Below w.heap.size w W) (fun i _=>N-(intOf i).toNat)
 case atStart=>exact⟨0,aQ _,rfl,fun q _ _ h=>absurd h (dD _),aY _ _⟩
 case round=>
  obtain⟨j,hj,rfl,hq,hw⟩:=hrel;have HWR:=iH hw;have HQ:=iH hq;clear hw hq;by_cases hlt:j<N
  case neg=>
   obtain rfl:j=N:=by omega
   obtain rfl:R=true:=HRR.out.2 (aAG (by rw[<-HNL.out,<-HNM.out]) (fun q h1 h2=>HQ.out q h1 h2 (by rw[HNL.out];exact h1)));clear HQ;go_wp2_with fail
   go_ret;exact⟨rfl,HWR.out⟩
  have hlt':(j:Int)<(N:Int):=by omega
  have i0:(0:Int)<=(j:Int):=by omega
  have hjl:j<l.length:=by rw[<-HNL.out];exact hlt
  have hjm:j<m.length:=by rw[<-HNM.out];exact hlt
  obtain rfl:=HA.out uAu;obtain rfl:=HA'.out uAu;obtain⟨x,hvb,hva,hrg⟩:=HR.out j hjl;obtain⟨cs,hcs,htv,hrg'⟩:=HR'.out j hjm;obtain⟨yk,yn,yt,ya,yl,yc,yd,ym,ye,hsh⟩:=kG htv;obtain rfl:=mZ hsh;have hva':=hva.later HWR.out;have htv':=htv.later HWR.out;have HR1:=iH (dB hrg HWR.out);have HR2:=iH (dB hrg' HWR.out);have HTW:=iH (HT0.out _ HWR.out);obtain⟨z,hz⟩:∃z,z=wP l[j] m[j]:=⟨_,rfl⟩
  have HZI:Hid (z=true↔l[j]=m[j]):=by
   show _↔_;rw[hz];exact aF9 _ _
  have HTA:Hid (∀W,Below wr.heap.size wr W->Calls Tryz.prog 19 #[.agg (aX x)] W fun r w'=>∃c,r=.returned (.agg c)/\TrV w' l[j] (.agg c)/\Below W.heap.size W w'):=fun W hb=>
   (aM4 _ W x hvb (hva'.later hb) (HTW.out.below hb)).mono fun r w' h=>by
    obtain⟨c,h1,_,h2,h3⟩:=h;exact⟨c,h1,h2.trv,h3⟩
  have HSA:Hid (∀(c:Array Value) (W:World),TrV W l[j] (.agg c)->Below wr.heap.size wr W->Calls Tryz.prog 18 #[.agg c,.agg (trC yk yn yt (.slice ya yl yc) (.slice yd ym ye))] W fun e w'=>e=.returned (.bool z)/\Below W.heap.size W w'):=fun c W h1 hb=>by rw[hz];exact aMz _ _ _ _ W h1 (htv'.later hb)
  have HKS:Hid (∀V,Below wr.heap.size wr V->V.rangeAt b (oo+j*4) (aX x).toList/\V.rangeAt b' (oo'+j*5) (trC yk yn yt (.slice ya yl yc) (.slice yd ym ye)).toList):=fun V hb=>⟨dB HR1.out hb,dB HR2.out hb⟩
  have HW:Hid (Below wr.heap.size wr wr.drew):=bE wr;have HLT:=iH hlt;clear hlt hva hva' htv htv' hrg hrg' hsh hcs hz hvb;cases z with
  |true=>
   go_upto_region 6 with fail
   refine bL (S:=(fun V=>V.rangeAt b (oo+j*4) (aX x).toList/\V.rangeAt b' (oo'+j*5) (trC yk yn yt (.slice ya yl yc) (.slice yd ym ye)).toList)) [] hO uAw (fun hHeld=> ?_);refine tkL 0 16 (h:=?_);refine tkL 1 17 (h:=?_);(try simp only[pq]);refine tkL 2 18 (h:=?_);refine tyL 3 19 (hy:=bT uAz 35 _ rfl b (oo+j*4) rfl (aX x) _ (fun w hw=>hw.1) Tryz.underlying35 rfl uFz) (h:=?_);(try simp only[pq]);refine tkL 5 21 (h:=?_);refine tkL 6 22 (h:=?_);(try simp only[pq]);refine tkL 7 23 (h:=?_);refine tyL 8 24 (hy:=bT uAz 28 _ rfl b' (oo'+j*5) rfl (trC yk yn yt (.slice ya yl yc) (.slice yd ym ye)) _ (fun w hw=>hw.2) Tryz.underlying28 rfl uCy) (h:=?_);(try simp only[pq]);refine tkO 4 (some 20) (h:=fun K hK=> ?_);go_simp;go_at_call 19;(with_reducible refine(HTA.out _ uBy).mono ?_);rintro r wt1 ⟨c,rfl,hc,hb⟩;have HC:=iH hc;replace HW:=iH (tW HW.out hb);clear hb hc;dsimp only;refine hK.out _ _ uAw (fun hHeld=> ?_);clear hK K;(try simp only[pq]);refine tkO 9 (some 25) (h:=fun K hK=> ?_);go_simp;go_at_call 18;(with_reducible refine(HSA.out _ _ HC.out uBy).mono ?_);rintro r wt2 ⟨rfl,hb⟩;replace HW:=iH (tW HW.out hb);clear hb;dsimp only;refine hK.out _ _ uAw (fun hHeld=> ?_);clear hK K;(try simp only[pq]);refine tkL 10 26 (h:=?_);(try simp only[pq]);refine bK hO ?_ _;clear hHeld;go_wp2_with fail
   go_roundw
   case rel=>
    refine⟨j+1,by have:=HLT.out;omega,by go_num,fun q h1 h2 h4=> ?_,tW HWR.out HW.out⟩;rcases cZ q j with h3|h3
    ·exact HQ.out q h1 h2 h3
    ·obtain rfl:q=j:=by omega
     exact HZI.out.1 rfl
   case measure=>have:=HLT.out;simp[intOf];omega
  |false=>
   obtain rfl:R=false:=iM.2 fun h=>by
    have h1:=HRR.out.1 h;subst h1;exact Bool.noConfusion (HZI.out.2 rfl)
   go_upto_region 6 with fail
   refine bL (S:=(fun V=>V.rangeAt b (oo+j*4) (aX x).toList/\V.rangeAt b' (oo'+j*5) (trC yk yn yt (.slice ya yl yc) (.slice yd ym ye)).toList)) [] hO uAw (fun hHeld=> ?_);refine tkL 0 16 (h:=?_);refine tkL 1 17 (h:=?_);(try simp only[pq]);refine tkL 2 18 (h:=?_);refine tyL 3 19 (hy:=bT uAz 35 _ rfl b (oo+j*4) rfl (aX x) _ (fun w hw=>hw.1) Tryz.underlying35 rfl uFz) (h:=?_);(try simp only[pq]);refine tkL 5 21 (h:=?_);refine tkL 6 22 (h:=?_);(try simp only[pq]);refine tkL 7 23 (h:=?_);refine tyL 8 24 (hy:=bT uAz 28 _ rfl b' (oo'+j*5) rfl (trC yk yn yt (.slice ya yl yc) (.slice yd ym ye)) _ (fun w hw=>hw.2) Tryz.underlying28 rfl uCy) (h:=?_);(try simp only[pq]);refine tkO 4 (some 20) (h:=fun K hK=> ?_);go_simp;go_at_call 19;(with_reducible refine(HTA.out _ uBy).mono ?_);rintro r wt1 ⟨c,rfl,hc,hb⟩;have HC:=iH hc;replace HW:=iH (tW HW.out hb);clear hb hc;dsimp only;refine hK.out _ _ uAw (fun hHeld=> ?_);clear hK K;(try simp only[pq]);refine tkO 9 (some 25) (h:=fun K hK=> ?_);go_simp;go_at_call 18;(with_reducible refine(HSA.out _ _ HC.out uBy).mono ?_);rintro r wt2 ⟨rfl,hb⟩;replace HW:=iH (tW HW.out hb);clear hb;dsimp only;refine hK.out _ _ uAw (fun hHeld=> ?_);clear hK K;(try simp only[pq]);refine tkL 10 26 (h:=?_);(try simp only[pq]);refine bK hO ?_ _;clear hHeld;go_wp2_with fail
   go_ret;exact⟨rfl,tW HWR.out HW.out⟩
def pD (W:World) (ys:List Tr) (css:List (Array Value)):Prop:=ys.length=css.length/\∀k (h:k<ys.length) (h':k<css.length),TrV W ys[k] (.agg css[k])
theorem pD.later {W W':World} {ys:List Tr} {css:List (Array Value)} (h:pD W ys css) (hb:Below W.heap.size W W'):pD W' ys css:=⟨h.1,fun k h1 h2=>(h.2 k h1 h2).later hb⟩
theorem pD.put {W:World} {ys:List Tr} {css:List (Array Value)} (h:pD W ys css) {x:Tr} {c:Array Value} (hx:TrV W x (.agg c)) (p:Nat):pD W (iQ p ys x) (((([]++css.take p)++[c])++css.drop p)):=by
 rw[bD];have h1:iQ p ys x=(ys.take p++[x])++ys.drop p:=by simp[iQ]
 rw[h1];have app:∀{a b:List Tr} {d e:List (Array Value)},pD W a d->pD W b e->pD W (a++b) (d++e):=fun {a b d e} h1 h2=>⟨by rw[aD,aD,h1.1,h2.1],fun k hk hk'=>by
  rcases cZ k a.length with hl|hl
  ·rw[dK hl,dK (by rw[<-h1.1];exact hl)]
   exact h1.2 k hl _
  ·rw[dH hl,dH (by rw[<-h1.1];exact hl)]
   have he:k-d.length=k-a.length:=by rw[h1.1]
   have:=h2.2 (k-a.length) (by have e2:=hk;rw[aD]at e2;omega) (by have e1:=h1.1;have e2:=hk';rw[aD]at e2;omega);simp only[he];exact this⟩
 refine app (app ⟨by rw[aV,aV,h.1],fun k h1 h2=> ?_⟩ ⟨rfl,fun k h1 h2=> ?_⟩) ⟨by rw[bS,bS,h.1],fun k h1 h2=> ?_⟩
 ·simp only[rK]
  exact h.2 k (by rw[aV]at h1;omega) (by rw[aV]at h2;omega)
 ·obtain rfl:k=0:=by simpa using h1
  exact hx
 ·simp only[nN]
  exact h.2 _ (by rw[bS]at h1;omega) (by rw[bS]at h2;omega)
theorem aBW (s:Nat) (cs:List (Array Value)) (k i:Nat) (u:Value) (hs:∀c∈cs,c.size=s) (h:k<cs.length) (hu:cs[k].toList[i]? =some u):(cs.flatMap Array.toList)[k*s+i]? =some u:=by
 have hi:=(List.getElem?_eq_some_iff.1 hu).1;rw[bB,hs _ (aO h)]at hi;rw[sH s cs k i _ hs (List.getElem?_eq_getElem h) hi,<-Array.getElem?_toList];exact hu
theorem aHR {t:Tr}:∀{P:List Tr} {q:Nat} (h:q<P.length),q<qH t P->eC P[q] t<=0
 |[],_,h,_=>absurd h (dD _)
 |x::r,q,h,hq=>by
  unfold qH at hq;rw[eX]at hq;by_cases h0:eC x t<=0
  ·rw[if_pos uNx,aL]at hq
   cases q with
   |zero=>exact h0
   |succ q=>exact aHR (P:=r) (rJ h) (rJ hq)
  ·rw[if_neg uNx]at hq
   exact absurd hq (dD _)
theorem aCW (l:List Tr) (v:Value) (w0 w:World) (hv:sV w0 v l) (h0:Below w0.heap.size w0 w) (hl:∀x∈l,dW x) (hlen:l.length<=20000):Calls Tryz.prog 25 #[v] w fun e w'=>∃v' css,e=.returned v'/\dC w.heap.size 28 5 v' css w'/\pD w0 (fT l) css/\Below w.heap.size w w':=by
  obtain⟨add,cap,b,oo,rfl,hmax,ha,hr⟩:=hv;obtain⟨N,hN⟩:∃N,N=l.length:=⟨_,rfl⟩
  rw[<-hN];have hn4:(N:Int)<=20000:=by omega
  have HNL:Hid (N=l.length/\N<=20000):=⟨hN,by omega⟩
  have HA:=aJ ha;have HR:=aJ hr;have HLB:=aJ hl;have H0:=aJ h0;have HS0:Hid (dC w.heap.size 28 5 (.slice (some ⟨w.heap.size,0,none⟩) 0 0) [] (w.alloc (.cells #[] 28))):=lK (aE _) uBu (aF _ _);have HB0':Hid (Below w.heap.size w (w.alloc (.cells #[] 28))):=Below.newly' w _;clear hN hr ha hl hmax hlen h0;go_enter Tryz.func25,Tryz.ntmps25;go_wp2_with fail
  go_loopw [3,11] (fun a3 i W=>∃(j:Nat) (iv:Value) (css:List (Array Value)),j<=N/\i=.int .i64 (j:Int)/\iv=a3/\Hid (dC w.heap.size 28 5 iv css W)/\Hid (pD w0 (fT (l.take j)) css)/\Hid (Below w.heap.size w W)) (fun _ i _=>N-(intOf i).toNat)
  case atStart=>exact⟨0,_,[],aQ _,rfl,rfl,HS0.out,⟨rfl,fun k h _=>absurd h (dD _)⟩,HB0'.out⟩
  case round=>
    clear HS0 HB0'
    rename World=>wo
    obtain⟨j,iv,css,hj,rfl,rfl,HIV,HRT,HBR⟩:=hrel;by_cases hlt:j<N
    case neg=>
      obtain rfl:j=N:=by omega
      have hfin:pD w0 (fT l) css:=by
        have h:=HRT.out;rw[HNL.out.1,eN]at h;exact h
      have HFIN:=aJ hfin;clear hfin;go_wp2_with fail
      go_ret;exact⟨_,css,rfl,HIV.out,HFIN.out,HBR.out⟩
    have hlt':(j:Int)<(N:Int):=by omega
    have i0:(0:Int)<=(j:Int):=by omega
    have hjl:j<l.length:=by rw[<-HNL.out.1];exact hlt
    obtain rfl:=HA.out uAu;obtain⟨cs,hcs,htv,hrg⟩:=HR.out j hjl;have HRG:=aJ (dB hrg (H0.out.trans (HBR.out.mono H0.out.size)));have htv':=htv.later (H0.out.trans (HBR.out.mono H0.out.size));obtain⟨x,hx⟩:∃x,x=l[j]:=⟨_,rfl⟩
    have hxb:dW x:=by rw[hx];exact HLB.out _ (aO hjl)
    have hnext:fT (l.take (j+1))=iQ (qH x (fT (l.take j))) (fT (l.take j)) x:=by rw[aS hjl,aIA,hx]
    rw[<-hx]at htv' htv;obtain⟨xk,xn,xt,xa,xl,xc,xd,xm,xe,hsh⟩:=kG htv';obtain rfl:=mZ hsh;obtain⟨ys,hys⟩:∃ys,ys=fT (l.take j):=⟨_,rfl⟩
    have hyl:ys.length=j:=by rw[hys,qD,aV];omega
    have hyb:∀y∈ys,dW y:=fun y hy=>HLB.out y (dI ((jL _).mem_iff.1 (by rw[<-hys];exact hy)))
    have hrt:=HRT.out;rw[<-hys]at hnext hrt;obtain⟨p,hp⟩:∃p,p=qH x ys:=⟨_,rfl⟩
    rw[<-hp]at hnext;have hcl:css.length=j:=by rw[<-hrt.1,hyl]
    have hpj:p<=j:=by rw[hp,<-hyl];exact aMT _ _
    have hc5:∀c∈css,c.size=5:=HIV.out.2.2
    have hc1:∀c∈css,c.all (·.oneCell')=true:=fun c hc=>by
      obtain⟨i,hi',rfl⟩:=lB.1 hc;obtain⟨kk,nn,tt,aa,ll,cc,dd,mm,ee,e⟩:=(hrt.2 i uAu hi').cells;rw[e];simp[Value.oneCell']
    have hck:=tL HIV.out.own.lsT;rw[hcl]at hck;obtain⟨a2,c2,hi2,hi2r⟩:=aC3 26 (P:=Tryz.prog) hO (fun w=>by kernel_rfl) hck hpj;obtain⟨a3,c3,hi3,hi3r⟩:=uW 26 (P:=Tryz.prog) hO (fun w=>by kernel_rfl) hck hpj;rw[tQ 5 css p hc5]at hi2;rw[qJ 5 css p hc5]at hi3;obtain⟨ia,ic,rfl,_⟩:=hck.shape;have hcell:∀k (_:k<j) (hk:k<css.length),∃g o,ia=some ⟨g,o,none⟩/\∀V,Below wo.heap.size wo V->V.rangeAt g (o+k*5) css[k].toList:=fun k hk hk'=>by
      obtain⟨g,o,c,e,_,_,_,h⟩:=hck.pos uAu;refine⟨g,o,?_,fun V hb=>dB (fun i u hu=> ?_) hb⟩
      ·injection e with e1 e2 e3
      ·have h2:=h (k*5+i) u (aBW 5 css k i u hc5 hk' hu)
       rw[<-tZ]at h2;exact h2
    have HCEL:=aJ hcell;have HCK:Hid (∀V,Below wo.heap.size wo V->bZ (fun _=>True) V 5 (.slice a2 p c2) ((css.take p).flatMap Array.toList) p):=fun V hb=>(hi2.later hb).weak fun _ _=>trivial
    have HCK2:Hid (∀V,Below wo.heap.size wo V->bZ (fun _=>True) V 5 (.slice a3 (j-p) c3) ((css.drop p).flatMap Array.toList) (j-p)):=fun V hb=>(hi3.later hb).weak fun _ _=>trivial
    have HP1:Hid (p=(css.take p).length/\∀c∈css.take p,c.size=5):=⟨by rw[aV];omega,fun c hc=>hc5 c (dI hc)⟩
    have HP2:Hid (j-p=(css.drop p).length/\∀c∈css.drop p,c.size=5):=⟨by rw[bS];omega,fun c hc=>hc5 c (gY hc)⟩
    have HO1:Hid (∀c∈css.take p,c.all (·.oneCell')=true):=fun c hc=>hc1 c (dI hc)
    have HO2:Hid (∀c∈css.drop p,c.all (·.oneCell')=true):=fun c hc=>hc1 c (gY hc)
    have HPN:Hid (p<=j/\j=css.length/\j<=20000):=⟨hpj,hcl.symm,by have:=HNL.out.2;omega⟩
    have HK2:=aJ hi2r;have HK3:=aJ hi3r;have HFIN:Hid (∀(v3:Value) (W:World),dC wo.heap.size 28 5 v3 ((([]++css.take p)++[(trC xk xn xt (.slice xa xl xc) (.slice xd xm xe))])++css.drop p) W->Below wo.heap.size wo W->dC w.heap.size 28 5 v3 ((([]++css.take p)++[(trC xk xn xt (.slice xa xl xc) (.slice xd xm xe))])++css.drop p) W/\pD w0 (fT (l.take (j+1))) ((([]++css.take p)++[(trC xk xn xt (.slice xa xl xc) (.slice xd xm xe))])++css.drop p)/\Below w.heap.size w W):=fun v3 W h hb=>⟨h.low HBR.out.size,by rw[hnext];exact hrt.put htv p,HBR.out.trans (hb.mono HBR.out.size)⟩
    have HPP:Hid (p=qH x ys):=hp;have HYL:Hid (ys.length=j):=hyl;have HYB:=aJ hyb;have HXB:=aJ hxb;have HYT:=aJ hrt;have HXT:=aJ htv';have hltN:=hlt;clear hi2 hi3 hi2r hi3r hck hcell hc1 hc5 hcl hrt hpj hp hnext hyb hyl hys hx hxb htv htv' hrg hsh hcs HIV HRT hjl;go_wp2_with (first
      |(refine lM uAz _ rfl b (oo+j*5) rfl (trC xk xn xt (.slice xa xl xc) (.slice xd xm xe)) HRG.out rfl ?_)
      |(refine bV rfl 28 _ _ rfl wo.heap.size (trC xk xn xt (.slice xa xl xc) (.slice xd xm xe)) rfl rfl 28 (trC 0 0 ⟨#[]⟩ (.slice none 0 0) (.slice none 0 0)) (aF _ _) bO rfl uAy ?_;intro w8 h8 k8;have hb8:Below wo.heap.size wo w8:=(Below.newly' _ _).trans (k8.below (aE _));have HX8:=aJ h8;have HB8:=aJ hb8;clear hb8 h8 k8))
    have HXK:Hid (∀V,Below w8.heap.size w8 V->V.heap[wo.heap.size]? =some (.cells (trC xk xn xt (.slice xa xl xc) (.slice xd xm xe)) 28 (0,0))):=fun V hb=>(hb.block _ (Array.getElem?_eq_some_iff.1 HX8.out).1).trans HX8.out
    have HCKb:Hid (∀V,Below w8.heap.size w8 V->bZ (fun _=>True) V 5 (.slice a2 p c2) ((css.take p).flatMap Array.toList) p):=fun V hb=>HCK.out V (HB8.out.trans (hb.mono HB8.out.size))
    have HCK2b:Hid (∀V,Below w8.heap.size w8 V->bZ (fun _=>True) V 5 (.slice a3 (j-p) c3) ((css.drop p).flatMap Array.toList) (j-p)):=fun V hb=>HCK2.out V (HB8.out.trans (hb.mono HB8.out.size))
    have HFINb:Hid (∀(v3:Value) (W:World),dC w8.heap.size 28 5 v3 ((([]++css.take p)++[(trC xk xn xt (.slice xa xl xc) (.slice xd xm xe))])++css.drop p) W->Below w8.heap.size w8 W->dC w.heap.size 28 5 v3 ((([]++css.take p)++[(trC xk xn xt (.slice xa xl xc) (.slice xd xm xe))])++css.drop p) W/\pD w0 (fT (l.take (j+1))) ((([]++css.take p)++[(trC xk xn xt (.slice xa xl xc) (.slice xd xm xe))])++css.drop p)/\Below w.heap.size w W):=fun v3 W h hb=>HFIN.out v3 W (h.low HB8.out.size) (HB8.out.trans (hb.mono HB8.out.size))
    clear HCK HCK2 HFIN;go_loopw [6] (fun a6 W=>∃k:Nat,k<=p/\a6=.int .i64 (k:Int)/\Hid (Below w8.heap.size w8 W)) (fun a6 _=>p+1-(intOf a6).toNat)
    case atStart=>exact⟨0,aQ _,rfl,aY _ _⟩
    case round=>
      obtain⟨k,hk,rfl,HV⟩:=hrel;have HW:Hid (Below wr.heap.size wr wr.drew):=bE wr;by_cases hkM:k<j
      case neg=>
        obtain rfl:p=k:=by have:=HPN.out.1;omega
        obtain rfl:j=p:=by have:=HPN.out.1;omega
        rw[aB0 j]at HCK2b HP2 HK3;have HKS:Hid (∀V,Below wr.heap.size wr V->V.heap[wo.heap.size]? =some (.cells (trC xk xn xt (.slice xa xl xc) (.slice xd xm xe)) 28 (0,0))):=fun V hb=>HXK.out V (HV.out.trans (hb.mono HV.out.size))
        go_upto_region 6 with fail
        refine bL (S:=(fun V=>V.heap[wo.heap.size]? =some (.cells (trC xk xn xt (.slice xa xl xc) (.slice xd xm xe)) 28 (0,0)))) [] hO uAw (fun hHeld=> ?_);refine aI (i:=0) (oi:=⟨some 15,_,_,_,_,_⟩) (v:=?vg1_0) rfl hO hO hO hO (fun _ _ _ h=>h) (Or.inl ⟨by rfl,?hg1_0⟩) uAx ?rg1_0
        case hg1_0=>(intro w hSw;(try dsimp only at hSw);first|(go_simp;done)|(go_simp;with_reducible rfl))
        (try simp only[Act.put,aA,aB,aC]);refine aI (i:=1) (oi:=⟨some 16,_,_,_,_,_⟩) (v:=?vg1_1) rfl hO hO hO hO (fun _ _ _ h=>h) (Or.inl ⟨by rfl,?hg1_1⟩) uAx ?rg1_1
        case hg1_1=>(intro w hSw;(try dsimp only at hSw);first|(go_simp;done)|(go_simp;with_reducible rfl))
        (try simp only[Act.put,aA,aB,aC]);refine aI (i:=2) (oi:=⟨some 17,_,_,_,_,_⟩) (v:=?vg1_2) rfl hO hO hO hO (fun _ _ _ h=>h) (Or.inl ⟨by rfl,?hg1_2⟩) uAx ?rg1_2
        case hg1_2=>(intro w hSw;(try dsimp only at hSw);first|(go_simp;done)|(go_simp;with_reducible rfl))
        (try simp only[Act.put,aA,aB,aC]);refine aI (i:=3) (oi:=⟨some 18,_,_,_,_,_⟩) (v:=?vg1_3) rfl hO hO hO hO (fun _ _ _ h=>h) (Or.inl ⟨by rfl,?hg1_3⟩) uAx ?rg1_3
        case hg1_3=>(intro w hSw;(try dsimp only at hSw);first|(go_simp;done)|(go_simp;with_reducible rfl))
        (try simp only[Act.put,aA,aB,aC]);refine aI (i:=4) (oi:=⟨some 19,_,_,_,_,_⟩) (v:=?vg1_4) rfl hO hO hO hO (fun _ _ _ h=>h) (Or.inl ⟨by rfl,?hg1_4⟩) uAx ?rg1_4
        case hg1_4=>(intro w hSw;(try dsimp only at hSw);first|(go_simp;done)|(go_simp;with_reducible rfl))
        (try simp only[Act.put,aA,aB,aC]);refine aI (i:=5) (oi:=⟨some 20,_,_,_,_,_⟩) (v:=undef) rfl hO hO hO hO (fun _ _ _ h=>h) (Or.inr ⟨by rfl,rfl⟩) uAx ?_;(try simp only[Act.put,aA,aB,aC]);refine aI (i:=6) (oi:=⟨some 21,_,_,_,_,_⟩) (v:=undef) rfl hO hO hO hO (fun _ _ _ h=>h) (Or.inr ⟨by rfl,rfl⟩) uAx ?_;(try simp only[Act.put,aA,aB,aC]);refine aI (i:=7) (oi:=⟨some 22,_,_,_,_,_⟩) (v:=undef) rfl hO hO hO hO (fun _ _ _ h=>h) (Or.inr ⟨by rfl,rfl⟩) uAx ?_;(try simp only[Act.put,aA,aB,aC]);refine aI (i:=8) (oi:=⟨some 23,_,_,_,_,_⟩) (v:=undef) rfl hO hO hO hO (fun _ _ _ h=>h) (Or.inr ⟨by rfl,rfl⟩) uAx ?_;(try simp only[Act.put,aA,aB,aC]);refine aI (i:=9) (oi:=⟨some 24,_,_,_,_,_⟩) (v:=undef) rfl hO hO hO hO (fun _ _ _ h=>h) (Or.inr ⟨by rfl,rfl⟩) uAx ?_;(try simp only[Act.put,aA,aB,aC]);refine aI (i:=10) (oi:=⟨some 25,_,_,_,_,_⟩) (v:=undef) rfl hO hO hO hO (fun _ _ _ h=>h) (Or.inr ⟨by rfl,rfl⟩) uAx ?_;(try simp only[Act.put,aA,aB,aC]);refine aI (i:=11) (oi:=⟨some 26,_,_,_,_,_⟩) (v:=undef) rfl hO hO hO hO (fun _ _ _ h=>h) (Or.inr ⟨by rfl,rfl⟩) uAx ?_
        (try simp only[Act.put,aA,aB,aC]);refine aI (i:=12) (oi:=⟨some 27,_,_,_,_,_⟩) (v:=?vg1_12) rfl hO hO hO hO (fun _ _ _ h=>h) (Or.inl ⟨by rfl,?hg1_12⟩) uAx ?rg1_12
        case hg1_12=>(intro w hSw;(try dsimp only at hSw);first|(go_simp;done)|(go_simp;with_reducible rfl))
        (try simp only[Act.put,aA,aB,aC]);refine bK hO ?_ _;clear hHeld;have HBW:Hid (Below w8.heap.size w8 wr.drew):=HV.out.trans (HW.out.mono HV.out.size);have HE0:Hid (dC w8.heap.size 28 5 (.slice (some ⟨wr.drew.heap.size,0,none⟩) 0 0) [] (wr.drew.alloc (.cells #[] 28))):=lK HBW.out.size (aG HBW.out.size (Below.newly' _ _).size) (aF _ _);have HB0:Hid (Below w8.heap.size w8 (wr.drew.alloc (.cells #[] 28))):=HBW.out.trans ((Below.newly' wr.drew (.cells #[] 28)).mono HBW.out.size);exact Aa2
      have hkj:(k:Int)<(j:Int):=by omega
      have k0:(0:Int)<=(k:Int):=by omega
      have hkl:k<ys.length:=by rw[HYL.out];exact hkM
      have hkc:k<css.length:=by rw[<-HPN.out.2.1];exact hkM
      obtain⟨g,oo2,rfl,hce⟩:=HCEL.out k hkM hkc;have hyt:=HYT.out.2 k hkl hkc;obtain⟨yk,yn,yt,ya,yl,yc,yd,ym,ye,e⟩:=hyt.cells;rw[e]at hyt hce;obtain⟨od,hod⟩:∃n,n=eC ys[k] x:=⟨_,rfl⟩
      have hrn:od= -1\/od=0\/od=1:=by rw[hod];exact iU _ _
      have hins:=aHS (t:=x) hkl fun q h hq=>aHR h (by rw[<-HPP.out];omega)
      rw[<-hod,<-HPP.out]at hins;have HOR:Hid (∀W,Below wr.heap.size wr W->Calls Tryz.prog 13 #[.agg (trC yk yn yt (.slice ya yl yc) (.slice yd ym ye)),.agg (trC xk xn xt (.slice xa xl xc) (.slice xd xm xe))] W fun e w'=>e=.returned (.int .i64 od)/\Below W.heap.size W w'):=fun W hb=>by
        have hbo:=HB8.out.trans ((HV.out.trans (hb.mono HV.out.size)).mono HB8.out.size);rw[hod];exact xK _ _ _ _ W (hyt.later (H0.out.trans ((HBR.out.trans (hbo.mono HBR.out.size)).mono H0.out.size))) (HXT.out.later hbo) (HYB.out _ (aO hkl)) HXB.out
      have HKS:Hid (∀V,Below wr.heap.size wr V->V.heap[wo.heap.size]? =some (.cells (trC xk xn xt (.slice xa xl xc) (.slice xd xm xe)) 28 (0,0))/\V.rangeAt g (oo2+k*5) (trC yk yn yt (.slice ya yl yc) (.slice yd ym ye)).toList):=fun V hb=>by
        have hb2:=HV.out.trans (hb.mono HV.out.size);exact⟨HXK.out V hb2,hce V (HB8.out.trans (hb2.mono HB8.out.size))⟩
      have HIN:=aJ hins;have HKM:=aJ hkM;clear hce hyt e hod hins hkl hkc hkM;rcases hrn with rfl|rfl|rfl
      ·have HK1:Hid (k+1<=p):=HIN.out.1 uAv
       go_upto_region 6 with fail
       refine bL (S:=(fun V=>V.heap[wo.heap.size]? =some (.cells (trC xk xn xt (.slice xa xl xc) (.slice xd xm xe)) 28 (0,0))/\V.rangeAt g (oo2+k*5) (trC yk yn yt (.slice ya yl yc) (.slice yd ym ye)).toList)) [] hO uAw (fun hHeld=> ?_);refine aI (i:=0) (oi:=⟨some 15,_,_,_,_,_⟩) (v:=?vg2_0) rfl hO hO hO hO (fun _ _ _ h=>h) (Or.inl ⟨by rfl,?hg2_0⟩) uAx ?rg2_0
       case hg2_0=>(intro w hSw;(try dsimp only at hSw);first|(go_simp;done)|(go_simp;with_reducible rfl))
       (try simp only[Act.put,aA,aB,aC]);refine aI (i:=1) (oi:=⟨some 16,_,_,_,_,_⟩) (v:=?vg2_1) rfl hO hO hO hO (fun _ _ _ h=>h) (Or.inl ⟨by rfl,?hg2_1⟩) uAx ?rg2_1
       case hg2_1=>(intro w hSw;(try dsimp only at hSw);first|(go_simp;done)|(go_simp;with_reducible rfl))
       (try simp only[Act.put,aA,aB,aC]);refine aI (i:=2) (oi:=⟨some 17,_,_,_,_,_⟩) (v:=?vg2_2) rfl hO hO hO hO (fun _ _ _ h=>h) (Or.inl ⟨by rfl,?hg2_2⟩) uAx ?rg2_2
       case hg2_2=>(intro w hSw;(try dsimp only at hSw);first|(go_simp;done)|(go_simp;with_reducible rfl))
       (try simp only[Act.put,aA,aB,aC]);refine aI (i:=3) (oi:=⟨some 18,_,_,_,_,_⟩) (v:=?vg2_3) rfl hO hO hO hO (fun _ _ _ h=>h) (Or.inl ⟨by rfl,?hg2_3⟩) uAx ?rg2_3
       case hg2_3=>(intro w hSw;(try dsimp only at hSw);first|(go_simp;done)|(go_simp;with_reducible rfl))
       (try simp only[Act.put,aA,aB,aC]);refine aI (i:=4) (oi:=⟨some 19,_,_,_,_,_⟩) (v:=?vg2_4) rfl hO hO hO hO (fun _ _ _ h=>h) (Or.inl ⟨by rfl,?hg2_4⟩) uAx ?rg2_4
       case hg2_4=>(intro w hSw;(try dsimp only at hSw);first|(go_simp;done)|(go_simp;with_reducible rfl))
       (try simp only[Act.put,aA,aB,aC]);refine aI (i:=5) (oi:=⟨some 20,_,_,_,_,_⟩) (v:=?vg2_5) rfl hO hO hO hO (fun _ _ _ h=>h) (Or.inl ⟨by rfl,?hg2_5⟩) uAx ?rg2_5
       case hg2_5=>(intro w hSw;(try dsimp only at hSw);first|(go_simp;done)|(go_simp;with_reducible rfl))
       (try simp only[Act.put,aA,aB,aC]);refine aI (i:=6) (oi:=⟨some 21,_,_,_,_,_⟩) (v:=?vg2_6) rfl hO hO hO hO (fun _ _ _ h=>h) (Or.inl ⟨by rfl,?hg2_6⟩) uAx ?rg2_6
       case hg2_6=>(intro w hSw;(try dsimp only at hSw);first|(go_simp;done)|(go_simp;with_reducible rfl))
       (try simp only[Act.put,aA,aB,aC]);refine aI (i:=7) (oi:=⟨some 22,_,_,_,_,_⟩) (v:=?vg2_7) rfl hO hO hO hO (fun _ _ _ h=>h) (Or.inl ⟨by rfl,?hg2_7⟩) uAx ?rg2_7
       case hg2_7=>(intro w hSw;(try dsimp only at hSw);first|(go_simp;done)|(go_simp;with_reducible rfl))
       (try simp only[Act.put,aA,aB,aC]);refine aI (i:=8) (oi:=⟨some 23,_,_,_,_,_⟩) (v:=_) rfl hO hO hO hO (fun _ _ _ h=>h) (bT uAz 28 _ rfl g (oo2+k*5) rfl (trC yk yn yt (.slice ya yl yc) (.slice yd ym ye)) _ (fun w hw=>hw.2) Tryz.underlying28 rfl uCy) uAx ?_;(try simp only[Act.put,aA,aB,aC]);refine aI (i:=9) (oi:=⟨some 24,_,_,_,_,_⟩) (v:=_) rfl hO hO hO hO (fun _ _ _ h=>h) (aP uAz 28 _ rfl wo.heap.size rfl (trC xk xn xt (.slice xa xl xc) (.slice xd xm xe)) 28 (0,0) _ (fun w hw=>hw.1) Tryz.underlying28 rfl uCy) uAx ?_;(try simp only[Act.put,aA,aB,aC]);refine jE (i:=10) (o:=⟨some 25,_,_,_,_,_⟩) hO rfl (fun K hK=> ?_);go_simp;go_at_call 13;(with_reducible refine(HOR.out _ uBy).mono ?_);rintro r wt ⟨rfl,hb⟩;replace HW:=aJ (HW.out.trans (hb.mono HW.out.size));clear hb;dsimp only;refine hK.out _ _ uAw (fun hHeld=> ?_);clear hK K;(try simp only[Act.put,aA,aB,aC]);refine aI (i:=11) (oi:=⟨some 26,_,_,_,_,_⟩) (v:=?vg2_11) rfl hO hO hO hO (fun _ _ _ h=>h) (Or.inl ⟨by rfl,?hg2_11⟩) uAx ?rg2_11
       case hg2_11=>(intro w hSw;(try dsimp only at hSw);first|(go_simp;done)|(go_simp;with_reducible rfl))
       (try simp only[Act.put,aA,aB,aC]);refine aI (i:=12) (oi:=⟨some 27,_,_,_,_,_⟩) (v:=?vg2_12) rfl hO hO hO hO (fun _ _ _ h=>h) (Or.inl ⟨by rfl,?hg2_12⟩) uAx ?rg2_12
       case hg2_12=>(intro w hSw;(try dsimp only at hSw);first|(go_simp;done)|(go_simp;with_reducible rfl))
       exact Ac6
      ·have HK1:Hid (k+1<=p):=HIN.out.1 uAv
       go_upto_region 6 with fail
       refine bL (S:=(fun V=>V.heap[wo.heap.size]? =some (.cells (trC xk xn xt (.slice xa xl xc) (.slice xd xm xe)) 28 (0,0))/\V.rangeAt g (oo2+k*5) (trC yk yn yt (.slice ya yl yc) (.slice yd ym ye)).toList)) [] hO uAw (fun hHeld=> ?_);refine aI (i:=0) (oi:=⟨some 15,_,_,_,_,_⟩) (v:=?vg3_0) rfl hO hO hO hO (fun _ _ _ h=>h) (Or.inl ⟨by rfl,?hg3_0⟩) uAx ?rg3_0
       case hg3_0=>(intro w hSw;(try dsimp only at hSw);first|(go_simp;done)|(go_simp;with_reducible rfl))
       (try simp only[Act.put,aA,aB,aC]);refine aI (i:=1) (oi:=⟨some 16,_,_,_,_,_⟩) (v:=?vg3_1) rfl hO hO hO hO (fun _ _ _ h=>h) (Or.inl ⟨by rfl,?hg3_1⟩) uAx ?rg3_1
       case hg3_1=>(intro w hSw;(try dsimp only at hSw);first|(go_simp;done)|(go_simp;with_reducible rfl))
       (try simp only[Act.put,aA,aB,aC]);refine aI (i:=2) (oi:=⟨some 17,_,_,_,_,_⟩) (v:=?vg3_2) rfl hO hO hO hO (fun _ _ _ h=>h) (Or.inl ⟨by rfl,?hg3_2⟩) uAx ?rg3_2
       case hg3_2=>(intro w hSw;(try dsimp only at hSw);first|(go_simp;done)|(go_simp;with_reducible rfl))
       (try simp only[Act.put,aA,aB,aC]);refine aI (i:=3) (oi:=⟨some 18,_,_,_,_,_⟩) (v:=?vg3_3) rfl hO hO hO hO (fun _ _ _ h=>h) (Or.inl ⟨by rfl,?hg3_3⟩) uAx ?rg3_3
       case hg3_3=>(intro w hSw;(try dsimp only at hSw);first|(go_simp;done)|(go_simp;with_reducible rfl))
       (try simp only[Act.put,aA,aB,aC]);refine aI (i:=4) (oi:=⟨some 19,_,_,_,_,_⟩) (v:=?vg3_4) rfl hO hO hO hO (fun _ _ _ h=>h) (Or.inl ⟨by rfl,?hg3_4⟩) uAx ?rg3_4
       case hg3_4=>(intro w hSw;(try dsimp only at hSw);first|(go_simp;done)|(go_simp;with_reducible rfl))
       (try simp only[Act.put,aA,aB,aC]);refine aI (i:=5) (oi:=⟨some 20,_,_,_,_,_⟩) (v:=?vg3_5) rfl hO hO hO hO (fun _ _ _ h=>h) (Or.inl ⟨by rfl,?hg3_5⟩) uAx ?rg3_5
       case hg3_5=>(intro w hSw;(try dsimp only at hSw);first|(go_simp;done)|(go_simp;with_reducible rfl))
       (try simp only[Act.put,aA,aB,aC]);refine aI (i:=6) (oi:=⟨some 21,_,_,_,_,_⟩) (v:=?vg3_6) rfl hO hO hO hO (fun _ _ _ h=>h) (Or.inl ⟨by rfl,?hg3_6⟩) uAx ?rg3_6
       case hg3_6=>(intro w hSw;(try dsimp only at hSw);first|(go_simp;done)|(go_simp;with_reducible rfl))
       (try simp only[Act.put,aA,aB,aC]);refine aI (i:=7) (oi:=⟨some 22,_,_,_,_,_⟩) (v:=?vg3_7) rfl hO hO hO hO (fun _ _ _ h=>h) (Or.inl ⟨by rfl,?hg3_7⟩) uAx ?rg3_7
       case hg3_7=>(intro w hSw;(try dsimp only at hSw);first|(go_simp;done)|(go_simp;with_reducible rfl))
       (try simp only[Act.put,aA,aB,aC]);refine aI (i:=8) (oi:=⟨some 23,_,_,_,_,_⟩) (v:=_) rfl hO hO hO hO (fun _ _ _ h=>h) (bT uAz 28 _ rfl g (oo2+k*5) rfl (trC yk yn yt (.slice ya yl yc) (.slice yd ym ye)) _ (fun w hw=>hw.2) Tryz.underlying28 rfl uCy) uAx ?_;(try simp only[Act.put,aA,aB,aC]);refine aI (i:=9) (oi:=⟨some 24,_,_,_,_,_⟩) (v:=_) rfl hO hO hO hO (fun _ _ _ h=>h) (aP uAz 28 _ rfl wo.heap.size rfl (trC xk xn xt (.slice xa xl xc) (.slice xd xm xe)) 28 (0,0) _ (fun w hw=>hw.1) Tryz.underlying28 rfl uCy) uAx ?_;(try simp only[Act.put,aA,aB,aC]);refine jE (i:=10) (o:=⟨some 25,_,_,_,_,_⟩) hO rfl (fun K hK=> ?_);go_simp;go_at_call 13;(with_reducible refine(HOR.out _ uBy).mono ?_);rintro r wt ⟨rfl,hb⟩;replace HW:=aJ (HW.out.trans (hb.mono HW.out.size));clear hb;dsimp only;refine hK.out _ _ uAw (fun hHeld=> ?_);clear hK K;(try simp only[Act.put,aA,aB,aC]);refine aI (i:=11) (oi:=⟨some 26,_,_,_,_,_⟩) (v:=?vg3_11) rfl hO hO hO hO (fun _ _ _ h=>h) (Or.inl ⟨by rfl,?hg3_11⟩) uAx ?rg3_11
       case hg3_11=>(intro w hSw;(try dsimp only at hSw);first|(go_simp;done)|(go_simp;with_reducible rfl))
       (try simp only[Act.put,aA,aB,aC]);refine aI (i:=12) (oi:=⟨some 27,_,_,_,_,_⟩) (v:=?vg3_12) rfl hO hO hO hO (fun _ _ _ h=>h) (Or.inl ⟨by rfl,?hg3_12⟩) uAx ?rg3_12
       case hg3_12=>(intro w hSw;(try dsimp only at hSw);first|(go_simp;done)|(go_simp;with_reducible rfl))
       exact Ac6
      ·obtain rfl:p=k:=HIN.out.2 uAv
       go_upto_region 6 with fail
       refine bL (S:=(fun V=>V.heap[wo.heap.size]? =some (.cells (trC xk xn xt (.slice xa xl xc) (.slice xd xm xe)) 28 (0,0))/\V.rangeAt g (oo2+p*5) (trC yk yn yt (.slice ya yl yc) (.slice yd ym ye)).toList)) [] hO uAw (fun hHeld=> ?_);refine aI (i:=0) (oi:=⟨some 15,_,_,_,_,_⟩) (v:=?vg4_0) rfl hO hO hO hO (fun _ _ _ h=>h) (Or.inl ⟨by rfl,?hg4_0⟩) uAx ?rg4_0
       case hg4_0=>(intro w hSw;(try dsimp only at hSw);first|(go_simp;done)|(go_simp;with_reducible rfl))
       (try simp only[Act.put,aA,aB,aC]);refine aI (i:=1) (oi:=⟨some 16,_,_,_,_,_⟩) (v:=?vg4_1) rfl hO hO hO hO (fun _ _ _ h=>h) (Or.inl ⟨by rfl,?hg4_1⟩) uAx ?rg4_1
       case hg4_1=>(intro w hSw;(try dsimp only at hSw);first|(go_simp;done)|(go_simp;with_reducible rfl))
       (try simp only[Act.put,aA,aB,aC]);refine aI (i:=2) (oi:=⟨some 17,_,_,_,_,_⟩) (v:=?vg4_2) rfl hO hO hO hO (fun _ _ _ h=>h) (Or.inl ⟨by rfl,?hg4_2⟩) uAx ?rg4_2
       case hg4_2=>(intro w hSw;(try dsimp only at hSw);first|(go_simp;done)|(go_simp;with_reducible rfl))
       (try simp only[Act.put,aA,aB,aC]);refine aI (i:=3) (oi:=⟨some 18,_,_,_,_,_⟩) (v:=?vg4_3) rfl hO hO hO hO (fun _ _ _ h=>h) (Or.inl ⟨by rfl,?hg4_3⟩) uAx ?rg4_3
       case hg4_3=>(intro w hSw;(try dsimp only at hSw);first|(go_simp;done)|(go_simp;with_reducible rfl))
       (try simp only[Act.put,aA,aB,aC]);refine aI (i:=4) (oi:=⟨some 19,_,_,_,_,_⟩) (v:=?vg4_4) rfl hO hO hO hO (fun _ _ _ h=>h) (Or.inl ⟨by rfl,?hg4_4⟩) uAx ?rg4_4
       case hg4_4=>(intro w hSw;(try dsimp only at hSw);first|(go_simp;done)|(go_simp;with_reducible rfl))
       (try simp only[Act.put,aA,aB,aC]);refine aI (i:=5) (oi:=⟨some 20,_,_,_,_,_⟩) (v:=?vg4_5) rfl hO hO hO hO (fun _ _ _ h=>h) (Or.inl ⟨by rfl,?hg4_5⟩) uAx ?rg4_5
       case hg4_5=>(intro w hSw;(try dsimp only at hSw);first|(go_simp;done)|(go_simp;with_reducible rfl))
       (try simp only[Act.put,aA,aB,aC]);refine aI (i:=6) (oi:=⟨some 21,_,_,_,_,_⟩) (v:=?vg4_6) rfl hO hO hO hO (fun _ _ _ h=>h) (Or.inl ⟨by rfl,?hg4_6⟩) uAx ?rg4_6
       case hg4_6=>(intro w hSw;(try dsimp only at hSw);first|(go_simp;done)|(go_simp;with_reducible rfl))
       (try simp only[Act.put,aA,aB,aC]);refine aI (i:=7) (oi:=⟨some 22,_,_,_,_,_⟩) (v:=?vg4_7) rfl hO hO hO hO (fun _ _ _ h=>h) (Or.inl ⟨by rfl,?hg4_7⟩) uAx ?rg4_7
       case hg4_7=>(intro w hSw;(try dsimp only at hSw);first|(go_simp;done)|(go_simp;with_reducible rfl))
       (try simp only[Act.put,aA,aB,aC]);refine aI (i:=8) (oi:=⟨some 23,_,_,_,_,_⟩) (v:=_) rfl hO hO hO hO (fun _ _ _ h=>h) (bT uAz 28 _ rfl g (oo2+p*5) rfl (trC yk yn yt (.slice ya yl yc) (.slice yd ym ye)) _ (fun w hw=>hw.2) Tryz.underlying28 rfl uCy) uAx ?_;(try simp only[Act.put,aA,aB,aC]);refine aI (i:=9) (oi:=⟨some 24,_,_,_,_,_⟩) (v:=_) rfl hO hO hO hO (fun _ _ _ h=>h) (aP uAz 28 _ rfl wo.heap.size rfl (trC xk xn xt (.slice xa xl xc) (.slice xd xm xe)) 28 (0,0) _ (fun w hw=>hw.1) Tryz.underlying28 rfl uCy) uAx ?_;(try simp only[Act.put,aA,aB,aC]);refine jE (i:=10) (o:=⟨some 25,_,_,_,_,_⟩) hO rfl (fun K hK=> ?_);go_simp;go_at_call 13;(with_reducible refine(HOR.out _ uBy).mono ?_);rintro r wt ⟨rfl,hb⟩;replace HW:=aJ (HW.out.trans (hb.mono HW.out.size));clear hb;dsimp only;refine hK.out _ _ uAw (fun hHeld=> ?_);clear hK K;(try simp only[Act.put,aA,aB,aC]);refine aI (i:=11) (oi:=⟨some 26,_,_,_,_,_⟩) (v:=?vg4_11) rfl hO hO hO hO (fun _ _ _ h=>h) (Or.inl ⟨by rfl,?hg4_11⟩) uAx ?rg4_11
       case hg4_11=>(intro w hSw;(try dsimp only at hSw);first|(go_simp;done)|(go_simp;with_reducible rfl))
       (try simp only[Act.put,aA,aB,aC]);refine aI (i:=12) (oi:=⟨some 27,_,_,_,_,_⟩) (v:=?vg4_12) rfl hO hO hO hO (fun _ _ _ h=>h) (Or.inl ⟨by rfl,?hg4_12⟩) uAx ?rg4_12
       case hg4_12=>(intro w hSw;(try dsimp only at hSw);first|(go_simp;done)|(go_simp;with_reducible rfl))
       (try simp only[Act.put,aA,aB,aC]);refine bK hO ?_ _;clear hHeld;have HBW:Hid (Below w8.heap.size w8 wt):=HV.out.trans (HW.out.mono HV.out.size);have HE0:Hid (dC w8.heap.size 28 5 (.slice (some ⟨wt.heap.size,0,none⟩) 0 0) [] (wt.alloc (.cells #[] 28))):=lK HBW.out.size (aG HBW.out.size (Below.newly' _ _).size) (aF _ _);have HB0:Hid (Below w8.heap.size w8 (wt.alloc (.cells #[] 28))):=HBW.out.trans ((Below.newly' wt (.cells #[] 28)).mono HBW.out.size);exact Aa2
theorem aIO (l:List Tr) (v:Value) (w:World) (hv:sV w v l) (hl:∀x∈l,dW x) (hlen:l.length<=20000):Calls Tryz.prog 25 #[v] w fun e w'=>∃v' css,e=.returned v'/\dC w.heap.size 28 5 v' css w'/\pD w (fT l) css/\Below w.heap.size w w':=aCW l v w w hv (aY _ _) hl hlen
end Go.Proofs.YtengibnpebfblaaGreatDoor
