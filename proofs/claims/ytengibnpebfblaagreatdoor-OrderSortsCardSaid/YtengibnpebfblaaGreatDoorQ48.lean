import Derived.Test.YtengibnpebfblaaGreatDoorQ0
import Derived.Test.YtengibnpebfblaaGreatDoorQ42
import Derived.Test.YtengibnpebfblaaGreatDoorQ36
import Derived.Test.YtengibnpebfblaaGreatDoorQ43
set_option maxRecDepth 1000000
set_option maxHeartbeats 8000000
set_option linter.unusedSimpArgs false
/-The document's place of a tree among others. (written by tools/gen12/find.py)-/
namespace Go.Proofs.YtengibnpebfblaaGreatDoor
open Go.RowKit
/--Where a tree belongs among others,and whether it is there.-/
def nY:List Tr->Tr->Nat×Bool
  |[],_=>(0,false)
  |x::r,a=>if 0<=eC x a then(0,eC x a==0)else((nY r a).1+1,(nY r a).2)
theorem aBU {a:Tr}:∀{l:List Tr},(∀q (h:q<l.length),eC l[q] a<0)->nY l a=(l.length,false)
  |[],_=>rfl
  |x::r,h=>by
   have h0:eC x a<0:=h 0 (lZ _);rw[nY,if_neg uAu,aBU (l:=r) fun q hq=>h (q+1) (oN hq)];rfl
theorem aEg {a:Tr}:∀{l:List Tr} {j:Nat},(∀q (h:q<l.length),q<j->eC l[q] a<0)->(hj:j<l.length)->0<=eC l[j] a->nY l a=(j,eC l[j] a==0)
  |[],_,_,hj,_=>absurd hj (dD _)
  |x::r,0,_,_,h0=>by rw[nY,if_pos (show 0<=eC x a from h0)];rfl
  |x::r,j+1,h,hj,h0=>by
   have h1:eC x a<0:=h 0 (lZ _) (lZ _);rw[nY,if_neg uAu,aEg (l:=r) (j:=j) (fun q hq hqj=>h (q+1) (oN hq) (oN hqj)) (rJ hj) h0];rfl
theorem aIP (l:List Tr) (a:Tr) (v u:Value) (w:World) (hv:sV w v l) (hu:TrV w a u) (hl:∀x∈l,dW x) (hva:dW a):Calls Tryz.prog 29 #[v,u] w fun e w'=>e=.returned (.tuple #[.int .i64 ((nY l a).1:Int),.bool (nY l a).2])/\Below w.heap.size w w':=by
  obtain⟨add,cap,b,oo,rfl,hmax,ha,hr⟩:=hv;obtain⟨ak,an,att,aa,al,ac,ad,am,ae,rfl⟩:=kG hu;obtain⟨w1,hw1⟩:∃w1,w.alloc (.cells (trC ak an att (.slice aa al ac) (.slice ad am ae)) 28)=w1:=⟨_,rfl⟩
  obtain⟨hb1,hx1,hs1⟩:=eA hw1;obtain⟨N,hN⟩:∃N,N=l.length:=⟨_,rfl⟩
  rw[<-hN];have hn4:(N:Int)<=9223372036854775807:=by unfold maxLen at hmax;omega
  have HNL:=aJ hN;have HA:=aJ ha;have HR:=aJ hr;have HB1:=aJ hb1;have HX1:=aJ (fun W (hb:Below w1.heap.size w1 W)=>(hb.block _ (Array.getElem?_eq_some_iff.1 hx1).1).trans hx1);have HU:=aJ (fun W (hb:Below w1.heap.size w1 W)=>(hu.later hb1).later hb);have HL:=aJ hl;have HVA:=aJ hva;clear hN ha hr hmax hb1 hx1 hs1 hu hl hva;go_enter Tryz.func29,Tryz.ntmps29;go_upto_region 1 with fail
  clear hw1;go_wp2_with fail
  go_loopw [11] (fun i W=>∃j:Nat,j<=N/\i=.int .i64 (j:Int)/\(∀q (h:q<l.length),q<j->eC l[q] a<0)/\Below w1.heap.size w1 W) (fun i _=>N-(intOf i).toNat)
  case atStart=>exact⟨0,aQ _,rfl,fun q _ h=>absurd h (dD _),aY _ _⟩
  case round=>
    obtain⟨j,hj,rfl,hq,hw⟩:=hrel;have HW:=aJ hw;have HQ:=aJ hq;clear hw hq;by_cases hlt:j<N
    case neg=>
      obtain rfl:j=N:=by omega
      have HF:Hid (nY l a=(j,false)):=by
        rw[HNL.out];exact aBU fun q h=>HQ.out q h (by rw[HNL.out];exact h)
      clear HQ;go_wp2_with fail
      go_ret2;refine⟨?_,HB1.out.trans (HW.out.mono HB1.out.size)⟩;rw[HF.out];rfl
    have hlt':(j:Int)<(N:Int):=by omega
    have i0:(0:Int)<=(j:Int):=by omega
    have hjl:j<l.length:=by rw[<-HNL.out];exact hlt
    obtain rfl:=HA.out uAu;obtain⟨cs,hcs,htv,hrg⟩:=HR.out j hjl;have hbw:=HB1.out.trans (HW.out.mono HB1.out.size);have HRG:=aJ (dB hrg hbw);have htv':=htv.later hbw;have HJ:=aJ hjl;obtain⟨xk,xn,xt,xa,xl,xc,xd,xm,xe,hsh⟩:=kG htv';obtain rfl:=mZ hsh;have HTV:=aJ htv';have HLT:=aJ hlt;obtain⟨n,hn⟩:∃n,n=eC l[j] a:=⟨_,rfl⟩
    have HOR:Hid (∀W,Below wr.heap.size wr W->Calls Tryz.prog 13 #[.agg (trC xk xn xt (.slice xa xl xc) (.slice xd xm xe)),.agg (trC ak an att (.slice aa al ac) (.slice ad am ae))] W fun e w'=>e=.returned (.int .i64 n)/\Below W.heap.size W w'):=fun W hb=>by rw[hn];exact xK _ _ _ _ W (HTV.out.later hb) (HU.out W (HW.out.trans (hb.mono HW.out.size))) (HL.out _ (aO hjl)) HVA.out
    have HXE:=aJ hn.symm;have hrn:n= -1\/n=0\/n=1:=by rw[hn];exact iU _ _
    clear hlt htv htv' hrg hsh hcs hn hbw;have HW0:Hid (Below wr.heap.size wr wr):=aY _ _;rcases hrn with rfl|rfl|rfl
    ·go_wp2_with (first
        |(refine lM uAz _ rfl b (oo+j*5) rfl (trC xk xn xt (.slice xa xl xc) (.slice xd xm xe)) HRG.out rfl ?_)
        |(refine bV rfl 28 _ _ rfl wr.heap.size (trC xk xn xt (.slice xa xl xc) (.slice xd xm xe)) rfl rfl 28 (trC 0 0 ⟨#[]⟩ (.slice none 0 0) (.slice none 0 0)) (aF _ _) bO rfl uAy ?_;intro w8 h8 k8;have hb8:Below wr.heap.size wr w8:=(Below.newly' _ _).trans (k8.below (aE _));have H8:=aJ h8;replace HW0:=aJ hb8;clear hb8 h8 k8)
        |(refine bR rfl 28 _ rfl wr.heap.size rfl 28 _ _ _ H8.out Tryz.underlying28 rfl bO ?_)
        |(refine bR rfl 28 _ rfl w.heap.size rfl 28 _ _ _ (HX1.out _ (HW.out.trans (HW0.out.mono HW.out.size))) Tryz.underlying28 rfl bO ?_)
        |(go_at_call 13;(with_reducible refine(HOR.out _ HW0.out).mono ?_);rintro r V ⟨rfl,hb⟩;replace HW0:=aJ (HW0.out.trans (hb.mono HW0.out.size));clear hb))
     go_roundw
     case rel=>
       refine⟨j+1,by have:=HLT.out;omega,by go_num,fun q h1 h2=> ?_,HW.out.trans (HW0.out.mono HW.out.size)⟩;rcases cZ q j with h3|h3
       ·exact HQ.out q h1 h3
       ·obtain rfl:q=j:=by omega
        exact Int.lt_of_le_of_lt (Int.le_of_eq HXE.out) uAv
     case measure=>have:=HLT.out;simp[intOf];omega
    ·go_wp2_with (first
        |(refine lM uAz _ rfl b (oo+j*5) rfl (trC xk xn xt (.slice xa xl xc) (.slice xd xm xe)) HRG.out rfl ?_)
        |(refine bV rfl 28 _ _ rfl wr.heap.size (trC xk xn xt (.slice xa xl xc) (.slice xd xm xe)) rfl rfl 28 (trC 0 0 ⟨#[]⟩ (.slice none 0 0) (.slice none 0 0)) (aF _ _) bO rfl uAy ?_;intro w8 h8 k8;have hb8:Below wr.heap.size wr w8:=(Below.newly' _ _).trans (k8.below (aE _));have H8:=aJ h8;replace HW0:=aJ hb8;clear hb8 h8 k8)
        |(refine bR rfl 28 _ rfl wr.heap.size rfl 28 _ _ _ H8.out Tryz.underlying28 rfl bO ?_)
        |(refine bR rfl 28 _ rfl w.heap.size rfl 28 _ _ _ (HX1.out _ (HW.out.trans (HW0.out.mono HW.out.size))) Tryz.underlying28 rfl bO ?_)
        |(go_at_call 13;(with_reducible refine(HOR.out _ HW0.out).mono ?_);rintro r V ⟨rfl,hb⟩;replace HW0:=aJ (HW0.out.trans (hb.mono HW0.out.size));clear hb))
     have HF:Hid (nY l a=(j,true)):=(aEg HQ.out HJ.out (Int.le_trans (by decide:(0:Int)<=0) (Int.le_of_eq HXE.out.symm))).trans (bH (fun n:Int=>(j,n==0)) HXE.out);exact Ah4
    ·go_wp2_with (first
        |(refine lM uAz _ rfl b (oo+j*5) rfl (trC xk xn xt (.slice xa xl xc) (.slice xd xm xe)) HRG.out rfl ?_)
        |(refine bV rfl 28 _ _ rfl wr.heap.size (trC xk xn xt (.slice xa xl xc) (.slice xd xm xe)) rfl rfl 28 (trC 0 0 ⟨#[]⟩ (.slice none 0 0) (.slice none 0 0)) (aF _ _) bO rfl uAy ?_;intro w8 h8 k8;have hb8:Below wr.heap.size wr w8:=(Below.newly' _ _).trans (k8.below (aE _));have H8:=aJ h8;replace HW0:=aJ hb8;clear hb8 h8 k8)
        |(refine bR rfl 28 _ rfl wr.heap.size rfl 28 _ _ _ H8.out Tryz.underlying28 rfl bO ?_)
        |(refine bR rfl 28 _ rfl w.heap.size rfl 28 _ _ _ (HX1.out _ (HW.out.trans (HW0.out.mono HW.out.size))) Tryz.underlying28 rfl bO ?_)
        |(go_at_call 13;(with_reducible refine(HOR.out _ HW0.out).mono ?_);rintro r V ⟨rfl,hb⟩;replace HW0:=aJ (HW0.out.trans (hb.mono HW0.out.size));clear hb))
     have HF:Hid (nY l a=(j,false)):=(aEg HQ.out HJ.out (Int.le_trans (by decide:(0:Int)<=1) (Int.le_of_eq HXE.out.symm))).trans (bH (fun n:Int=>(j,n==0)) HXE.out);exact Ah4
end Go.Proofs.YtengibnpebfblaaGreatDoor
set_option maxRecDepth 1000000
set_option maxHeartbeats 8000000
set_option linter.unusedSimpArgs false
/-Package order:Find. (written by tools/gen12/odfnd.py)-/
namespace Go.Proofs.YtengibnpebfblaaGreatDoor
open Go.RowKit
theorem aFs (a t:Tr) (x:Cel) (k:ByteArray) (w:World) (hk:k=kB t) (hv:VAt (fun _=>True) w a x) (ha:dW a) (hT:fW w):Calls Tryz.prog 57 #[.agg (aX x),.string k] w fun e w'=>e=.returned (.int .i64 (eC a t))/\Below w.heap.size w w':=by
  obtain⟨w1,hw1⟩:∃w1,w.alloc (.cells (aX x) 35)=w1:=⟨_,rfl⟩
  obtain⟨hb1,hx1,hs1⟩:=eA hw1;obtain⟨ka,hka⟩:∃q,q=kB a:=⟨_,rfl⟩
  obtain⟨n,hn⟩:∃n,n=eC a t:=⟨_,rfl⟩
  have HKA:Hid (∀W,Below w1.heap.size w1 W->Calls Tryz.prog 41 #[.agg (aX x)] W fun e w'=>e=.returned (.string ka)/\Below W.heap.size W w'):=fun W hb=>by rw[hka];exact xD W a x ha ((hv.later hb1).later hb) ((hT.below hb1).below hb)
  have HOR:Hid (∀W,Calls Tryz.prog 40 #[.string ka,.string k] W fun e w'=>e=.returned (.int .i64 n)/\W=w'):=fun W=>by
    have h:=yM ka k W;rw[hka,hk,oK,oK]at h;rw[hn,hka,hk];exact h
  rw[<-hn];have HB1:=aJ hb1;have HX1:=aJ hx1;have HW:Hid (Below w1.heap.size w1 w1):=aY _ _;clear hka hn hb1 hx1 hs1 hv ha hT hk;go_enter Tryz.func57,Tryz.ntmps57;go_upto_region 1 with fail
  clear hw1;go_wp2_with (first
    |(refine bR rfl 35 _ rfl w.heap.size rfl 35 _ _ _ HX1.out Tryz.underlying35 rfl aR ?_)
    |(go_at_call 41;(with_reducible refine(HKA.out _ HW.out).mono ?_);rintro r V ⟨rfl,hb⟩;replace HW:=aJ (HW.out.trans (hb.mono HW.out.size));clear hb)
    |(go_at_call 40;(with_reducible refine(HOR.out _).mono ?_);rintro r V2 ⟨rfl,rfl⟩))
  have hb:=HB1.out.trans (HW.out.mono HB1.out.size);go_ret;exact⟨rfl,hb⟩
theorem aFo {a b t:Tr} (h:LeT a b) (hb:eC b t<0):eC a t<0:=by
  by_cases h1:eC a b=0
  ·unfold eC at*
   rw[(gJ _ _).1 h1];exact hb
  ·exact LtT.trans (show LtT a b by unfold LtT;unfold LeT at h;omega) hb
theorem aIW (l:List Tr) (t:Tr) (v:Value) (k:ByteArray) (w:World) (hk:k=kB t) (hv:lU (fun _=>True) w v l) (hlen:l.length<=90000) (hs:l.Pairwise LeT) (hT:fW w):
    Calls Tryz.prog 56 #[v,.string k,.func (.func 57) #[] #[]] w fun r w'=>r=.returned (.tuple #[.int .i64 ((nY l t).1:Int),.bool (nY l t).2])/\Below w.heap.size w w':=by
  obtain⟨ad,cap,b,oo,rfl,hmax,ha,hr⟩:=hv;obtain⟨N,hN⟩:∃N,N=l.length:=⟨_,rfl⟩
  rw[<-hN];have hn4:(N:Int)<=90000:=by omega
  have HNL:Hid (N=l.length/\N<=90000):=⟨hN,by omega⟩
  have HA:=aJ ha;have HR:=aJ hr;have HK:=aJ hk;have HSO:Hid (∀p q (hp:p<l.length) (hq:q<l.length),p<=q->LeT l[p] l[q]):=fun p q hp hq h=>by
    rcases cZ p q with h1|h1
    ·exact eK.1 hs p q hp hq h1
    ·obtain rfl:p=q:=by omega
     unfold LeT;rw[sA];exact Int.le_refl _
  have HT0:=aJ (fun W (hb:Below w.heap.size w W)=>hT.below hb);obtain⟨R1,hR1⟩:∃q,q=(nY l t).1:=⟨_,rfl⟩
  obtain⟨R2,hR2⟩:∃q,q=(nY l t).2:=⟨_,rfl⟩
  rw[<-hR1,<-hR2];have HRE:Hid (nY l t=(R1,R2)):=by show _=_;rw[hR1,hR2]
  clear hN hr ha hmax hlen hs hT hk hR1 hR2;go_enter Tryz.func56,Tryz.ntmps56;go_wp2_with fail
  go_loopw [9,10] (fun a9 a10 W=>∃lo hi:Nat,a9=.int .i64 (lo:Int)/\a10=.int .i64 (hi:Int)/\lo<=hi/\hi<=N/\Hid (∀q (h:q<l.length),q<lo->eC l[q] t<0)/\Hid (∀q (h:q<l.length),hi<=q->0<=eC l[q] t)/\Hid (Below w.heap.size w W)) (fun a9 a10 _=>(intOf a10).toNat-(intOf a9).toNat)
  case atStart=>exact⟨0,N,rfl,rfl,aQ _,aE _,fun q _ h=>absurd h (dD _),fun q h h2=>by have:=HNL.out;omega,aY _ _⟩
  case round=>
    obtain⟨lo,hi,rfl,rfl,hlh,hhN,HLO,HHI,HW⟩:=hrel;have l0:(0:Int)<=(lo:Int):=by omega
    have h0:(0:Int)<=(hi:Int):=by omega
    have hhN':(hi:Int)<=(N:Int):=by omega
    by_cases hlt:lo<hi
    case pos=>
      have hlt':(lo:Int)<(hi:Int):=by omega
      obtain⟨m,hm⟩:∃m,m=(lo+hi)/2:=⟨_,rfl⟩
      have hmr:((lo:Int)+(hi:Int))/2=(m:Int):=by omega
      have HM:Hid (lo<=m/\m<hi):=⟨by omega,by omega⟩
      have hml:m<l.length:=by have:=HNL.out;omega
      have m0:(0:Int)<=(m:Int):=by omega
      have m1:(m:Int)<(N:Int):=by omega
      obtain rfl:=HA.out uAu;obtain⟨y,hy0,hy1,hrg⟩:=HR.out m hml;have HRG:=aJ (dB hrg HW.out);obtain⟨c,hc⟩:∃c,c=eC l[m] t:=⟨_,rfl⟩
      have HC:=aJ hc;have HML:=aJ hml;have HF:Hid (Calls Tryz.prog 57 #[.agg (aX y),.string k] wr fun e w'=>e=.returned (.int .i64 c)/\Below wr.heap.size wr w'):=by rw[hc];exact aFs _ t y k wr HK.out (hy1.later HW.out) hy0 (HT0.out _ HW.out)
      have HLT:=aJ hlt;clear hm hy0 hy1 hrg hc hlt;by_cases hneg:c<0
      ·go_wp2_with (first
          |(refine oU uAz _ rfl b (oo+m*4) rfl (aX y) HRG.out rfl ?_)
          |(go_at_call 57;(with_reducible refine(HF.out).mono ?_);rintro r V ⟨rfl,hb⟩;have HV:=aJ (HW.out.trans (hb.mono HW.out.size));clear hb))
       go_roundw
       case rel=>
         exact⟨m+1,hi,by go_num,rfl,by have:=HM.out;omega,hhN,fun q h h2=>aFo (HSO.out q m h HML.out uAu) (by rw[<-HC.out];exact hneg),HHI.out,HV.out⟩
       case measure=>have:=HM.out;simp[intOf];omega
      ·go_wp2_with (first
          |(refine oU uAz _ rfl b (oo+m*4) rfl (aX y) HRG.out rfl ?_)
          |(go_at_call 57;(with_reducible refine(HF.out).mono ?_);rintro r V ⟨rfl,hb⟩;have HV:=aJ (HW.out.trans (hb.mono HW.out.size));clear hb))
       go_roundw
       case rel=>
         exact⟨lo,m,rfl,rfl,by have:=HM.out;omega,by have:=HM.out;omega,HLO.out,fun q h h2=>Int.not_lt.1 fun h3=>by have h4:=aFo (HSO.out m q HML.out h h2) h3;rw[<-HC.out]at h4;omega,HV.out⟩
       case measure=>have:=HM.out;simp[intOf];omega
    obtain rfl:lo=hi:=by omega
    by_cases hin:lo<N
    case pos=>
      have hin':(lo:Int)<(N:Int):=by omega
      have hml:lo<l.length:=by rw[<-HNL.out.1];exact hin
      obtain rfl:=HA.out uAu;obtain⟨y,hy0,hy1,hrg⟩:=HR.out lo hml;have HRG:=aJ (dB hrg HW.out);obtain⟨c,hc⟩:∃c,c=eC l[lo] t:=⟨_,rfl⟩
      have hfa:=aEg (fun q h h2=>HLO.out q h h2) hml (HHI.out lo hml (aE _));rw[HRE.out,<-hc]at hfa;have HFA:=aJ hfa;have HF:Hid (Calls Tryz.prog 57 #[.agg (aX y),.string k] wr fun e w'=>e=.returned (.int .i64 c)/\Below wr.heap.size wr w'):=by rw[hc];exact aFs _ t y k wr HK.out (hy1.later HW.out) hy0 (HT0.out _ HW.out)
      clear hy0 hy1 hrg hc hin hfa;go_wp2_with (first
        |(refine oU uAz _ rfl b (oo+lo*4) rfl (aX y) HRG.out rfl ?_)
        |(go_at_call 57;(with_reducible refine(HF.out).mono ?_);rintro r V ⟨rfl,hb⟩;have HV:=aJ (HW.out.trans (hb.mono HW.out.size));clear hb))
      go_ret2;refine⟨?_,HV.out⟩;have h1:=bH Prod.fst HFA.out;have h2:=bH Prod.snd HFA.out;dsimp only at h1 h2;rw[h1,h2];first|rfl|simp
    have hin':¬(lo:Int)<(N:Int):=by omega
    have hfa:=aBU (l:=l) (a:=t) (fun q h=>HLO.out q h uIx);rw[HRE.out,<-HNL.out.1]at hfa;have HFA:=aJ hfa;have HLE:Hid (lo=N):=by show _=_;omega
    clear hin hfa;go_wp2_with fail
    go_ret2;refine⟨?_,HW.out⟩;have h1:=bH Prod.fst HFA.out;have h2:=bH Prod.snd HFA.out;dsimp only at h1 h2;rw[h1,h2,<-HLE.out];first|rfl|simp
theorem aMK (l:List Tr) (t:Tr) (v:Value) (x:Cel) (w:World) (hv:lU (fun _=>True) w v l) (hlen:l.length<=90000) (hs:l.Pairwise LeT) (hx:VAt (fun _=>True) w t x) (ht:dW t) (hT:fW w):
    Calls Tryz.prog 28 #[v,.agg (aX x)] w fun r w'=>r=.returned (.tuple #[.int .i64 ((nY l t).1:Int),.bool (nY l t).2])/\Below w.heap.size w w':=by
  obtain⟨w1,hw1⟩:∃w1,w.alloc (.cells (aX x) 35)=w1:=⟨_,rfl⟩
  obtain⟨hb1,hx1,hs1⟩:=eA hw1;have HKA:=aJ (fun W (hb:Below w1.heap.size w1 W)=>xD W t x ht ((hx.later hb1).later hb) ((hT.below hb1).below hb));have HBS:=aJ (fun W (hb:Below w1.heap.size w1 W)=>aIW l t v (kB t) W rfl ((hv.later hb1).later hb) hlen hs ((hT.below hb1).below hb));obtain⟨R1,hR1⟩:∃q,q=(nY l t).1:=⟨_,rfl⟩
  obtain⟨R2,hR2⟩:∃q,q=(nY l t).2:=⟨_,rfl⟩
  rw[<-hR1,<-hR2]at HBS;rw[<-hR1,<-hR2];obtain⟨k,hk⟩:∃k,k=kB t:=⟨_,rfl⟩
  rw[<-hk]at HKA HBS;have HB1:=aJ hb1;have HX1:=aJ hx1;have HW:Hid (Below w1.heap.size w1 w1):=aY _ _;clear hb1 hx1 hs1 hv hx ht hT hs hR1 hR2 hk hlen;go_enter Tryz.func28,Tryz.ntmps28;go_upto_region 1 with fail
  clear hw1;go_wp2_with (first
    |(refine bR rfl 35 _ rfl w.heap.size rfl 35 _ _ _ HX1.out Tryz.underlying35 rfl aR ?_)
    |(go_at_call 41;(with_reducible refine(HKA.out _ HW.out).mono ?_);rintro r V ⟨rfl,hb⟩;replace HW:=aJ (HW.out.trans (hb.mono HW.out.size));clear hb)
    |(go_at_call 56;(with_reducible refine(HBS.out _ HW.out).mono ?_);rintro r V2 ⟨rfl,hb⟩;replace HW:=aJ (HW.out.trans (hb.mono HW.out.size));clear hb))
  have hb:=HB1.out.trans (HW.out.mono HB1.out.size);go_ret2;exact⟨rfl,hb⟩
end Go.Proofs.YtengibnpebfblaaGreatDoor
