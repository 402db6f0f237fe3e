import Derived.Test.YtengibnpebfblaaGreatDoorQ0
import Derived.Test.YtengibnpebfblaaGreatDoorQ31
import Derived.Test.YtengibnpebfblaaGreatDoorQ36
import Derived.Test.YtengibnpebfblaaGreatDoorQ41
import Derived.Test.YtengibnpebfblaaGreatDoorQ32
import Derived.Test.YtengibnpebfblaaGreatDoorQ34
set_option maxRecDepth 1000000
set_option maxHeartbeats 8000000
set_option linter.unusedSimpArgs false
namespace Go.Proofs.YtengibnpebfblaaGreatDoor
open Go.RowKit
theorem eG:(Tryz.prog.info? 24).map (·.size)=some 2:=by kernel_rfl
def aCt (a:Tr):Tr:=if oX a=0 then cU a else iE
theorem aD7 (s:Nat) (bb:Int) (a:Tr) (v:Value) (w:World) (hs:s<18446744073709551616) (hv:TrV w a v) (hfew:pF 2000 a) (htxt:jQ 3000 a) (hnod:fU a<=100000) (hT:fW w):
  Calls Tryz.prog 11 #[.agg #[.int .u64 (s:Int),.int .i64 bb],v] w fun e w'=>∃y,e=.returned (.agg (aX y))/\VAt (fun g=>w.heap.size<=g) w' (aCt a) y/\Below w.heap.size w w':=by
 obtain⟨ak,an,att,aa,al,ac,ad,am,ae,rfl⟩:=kG hv;obtain⟨w1,hw1⟩:∃w1,((w.alloc (.cells #[.int .u64 (s:Int),.int .i64 bb] 24)).alloc (.cells (trC ak an att (.slice aa al ac) (.slice ad am ae)) 28)).alloc (.cells #[.int .i64 0,.int .i64 0,.string ⟨#[]⟩,.pointer none] 35)=w1:=⟨_,rfl⟩
 obtain⟨hb1,hx1,hx2,hx3,hs1⟩:=lI hw1;have HOF:Hid (∀W,Below w1.heap.size w1 W->Calls Tryz.prog 36 #[.agg #[.int .u64 (s:Int),.int .i64 bb],.agg (trC ak an att (.slice aa al ac) (.slice ad am ae))] W fun e w'=>∃y,e=.returned (.tuple #[.agg (aX y),.int .i64 (oX a)])/\VAt (fun g=>w1.heap.size<=g) w' (aCt a) y/\Below W.heap.size W w'):=fun W hb=>(va_Of a _ W s bb ((hv.later hb1).later hb) hfew htxt hnod hs ((hT.below hb1).below hb)).mono fun e w' h=>by
  obtain⟨y,h1,h2,h3⟩:=h;exact⟨y,h1,h2.weak fun g hg=>aG hb.size hg,h3⟩
 have HX1:=iH hx1;have HX2:=iH hx2;have HX3:=iH (fun W (hb:Below w1.heap.size w1 W)=>kW hb hx3);have HB1:=iH hb1;have HS1:=iH hs1;have HW:Hid (Below w1.heap.size w1 w1):=aY _ _;clear hb1 hx1 hx2 hx3 hs1 hv hfew htxt hnod hT;go_enter Tryz.func11,Tryz.ntmps11;go_upto_region 1 with fail
 clear hw1;go_wp2_with (first
  |(refine bR rfl 24 _ rfl w.heap.size rfl 24 _ _ _ HX1.out Tryz.underlying24 rfl eG ?_)
  |(refine bR rfl 28 _ rfl (w.heap.size+1) rfl 28 _ _ _ HX2.out Tryz.underlying28 rfl bO ?_)
  |(go_at_call 36;(with_reducible refine(HOF.out _ HW.out).mono ?_);rintro r V ⟨y,rfl,hy,hb⟩;have HY:=iH hy;replace HW:=iH (tW HW.out hb);clear hb hy)
  |(refine bV rfl 35 _ _ rfl V.heap.size (aX y) rfl rfl 35 #[.int .i64 0,.int .i64 0,.string ⟨#[]⟩,.pointer none] (aF _ _) aR rfl (eU y) ?_;intro w3 h3 k3;have hb3:Below V.heap.size V w3:=(Below.newly' _ _).trans (k3.below (aE _));have HY3:=iH (HY.out.later hb3);have H3:=iH h3;replace HW:=iH (tW HW.out hb3);clear hb3 h3 k3)
  |(refine bR rfl 35 _ rfl V.heap.size rfl 35 _ _ _ H3.out Tryz.underlying35 rfl aR ?_)
  |(refine bV rfl 35 _ _ rfl (w.heap.size+2) (aX y) rfl rfl 35 #[.int .i64 0,.int .i64 0,.string ⟨#[]⟩,.pointer none] (HX3.out _ HW.out) aR rfl (eU y) ?_;intro w5 h5 k5))
 have hfin:VAt (fun g=>w.heap.size<=g) w5 (aCt a) y:=(HY3.out.kq (Kq.only k5 uBx)).weak fun g hg=>aG HB1.out.size hg
 have hb:=HB1.out.trans ((HW.out.mono HB1.out.size).trans (k5.below uAu));exact bF (cE rfl _ _ (w.heap.size+2) 35 _ (0,0) _ rfl h5 Tryz.underlying35 rfl aR) rfl ⟨y,rfl,hfin,hb⟩
theorem aHx {a:Tr} (h:(smT a 0 120).2=true):pF 2000 a/\jQ 3000 a/\fU a<=120:=by
 have h1:=aDQ a 0 120 h;exact⟨aNF 2000 a 0 120 h uAv,aK0 uAv a (aIG a h1.2.2.1),by have:=h1.1;omega⟩
def okR (a:Tr):Bool:=(smT a 0 120).2&&oX a==0
theorem aE1 {a:Tr} (h:okR a=true) (hr:pE a):pF 2000 a/\jQ 3000 a/\fU a<=120/\oX a=0/\aCt a=cU a/\dW (cU a):=by
 unfold okR at h;have h1:=bI.1 h;obtain⟨h2,h3,h4⟩:=aHx h1.1;have h5:oX a=0:=by simpa using h1.2
 exact⟨h2,h3,h4,h5,if_pos h5,(aMF h5 hr uAu h3).2.2.2.2.2⟩
def sV (w:World) (v:Value) (l:List Tr):Prop:=∃(a:Option Addr) (c b o:Nat),v=.slice a l.length c/\l.length<=maxLen/\(0<l.length->a=some ⟨b,o,none⟩)/\∀j (h:j<l.length),∃cs:Array Value,cs.size=5/\TrV w l[j] (.agg cs)/\w.rangeAt b (o+j*5) cs.toList
theorem sV.later {w w':World} {v:Value} {l:List Tr} (h:sV w v l) (hb:Below w.heap.size w w'):sV w' v l:=by
 obtain⟨a,c,b,o,h1,h2,h3,h4⟩:=h;refine⟨a,c,b,o,h1,h2,h3,fun j hj=> ?_⟩;obtain⟨cs,q1,q2,q3⟩:=h4 j hj;exact⟨cs,q1,q2.later hb,dB q3 hb⟩
theorem aFD (w:World) (v:Value) (l:List Tr) (hv:sV w v l):Calls Tryz.prog 10 #[v] w fun e w'=>e=.returned (.bool (l.all okR&&decide (l.length<=12)))/\Below w.heap.size w w':=by
 obtain⟨ad,cap,b,oo,rfl,hmax,ha,hr⟩:=hv;obtain⟨N,hN⟩:∃N,N=l.length:=⟨_,rfl⟩
 rw[<-hN];have hn4:(N:Int)<=9223372036854775807:=by unfold maxLen at hmax;omega
 have HNL:=iH hN;have HA:=iH ha;have HR:=iH hr;clear hN ha hr hmax;go_enter Tryz.func10,Tryz.ntmps10;go_wp2_with fail
 go_loopw [7] (fun i W=>∃j:Nat,j<=N/\i=.int .i64 (j:Int)/\(∀q (h:q<l.length),q<j->okR l[q]=true)/\Below w.heap.size w W) (fun i _=>N-(intOf i).toNat)
 case atStart=>exact⟨0,aQ _,rfl,fun q _ h=>absurd h (dD _),aY _ _⟩
 case round=>
  obtain⟨j,hj,rfl,hq,hw⟩:=hrel;have HW:=iH hw;have HQ:=iH hq;clear hw hq;by_cases hlt:j<N
  case neg=>
   obtain rfl:j=N:=by omega
   have HALL:Hid (l.all okR=true):=by
    show _=_;rw[fO];intro x hx;obtain⟨q,hq,rfl⟩:=List.getElem_of_mem hx;exact HQ.out q hq (by rw[HNL.out];exact hq)
   clear HQ;go_wp2_with fail
   have hd:decide ((j:Int)<=12)=decide (j<=12):=by rw[aJD];omega
   go_ret;refine⟨?_,HW.out⟩;rw[HALL.out,lF,<-hd];rfl
  have hlt':(j:Int)<(N:Int):=by omega
  have i0:(0:Int)<=(j:Int):=by omega
  have hjl:j<l.length:=by rw[<-HNL.out];exact hlt
  obtain rfl:=HA.out uAu;obtain⟨cs,hcs,htv,hrg⟩:=HR.out j hjl;have HRG:=iH (dB hrg HW.out);have htv':=htv.later HW.out;have hmem:∀q (h:q<l.length),okR l[q]=false->l.all okR=false:=fun q h hq=>by
   rw[iM];intro hall;rw[fO]at hall;rw[hall _ (aO h)]at hq;cases hq
  have HMM:Hid (okR l[j]=false->l.all okR=false):=hmem j hjl;have HST:Hid (okR l[j]=true->∀q (h:q<l.length),q<j+1->okR l[q]=true):=fun h0 q h1 h2=>by
   rcases cZ q j with h3|h3
   ·exact HQ.out q h1 h3
   ·obtain rfl:q=j:=by omega
    exact h0
  obtain⟨x,hx⟩:∃x,x=l[j]:=⟨_,rfl⟩
  rw[<-hx]at htv' HMM HST;obtain⟨ak,an,att,aa,al,ac,ad,am,ae,hsh⟩:=kG htv';obtain rfl:=mZ hsh;have HTV:=iH htv';have HLT:=iH hlt;obtain⟨sm,hsm⟩:∃b,b=(smT x 0 120).2:=⟨_,rfl⟩
  have HSM:Hid (∀W,Below wr.heap.size wr W->Calls Tryz.prog 35 #[.agg (trC ak an att (.slice aa al ac) (.slice ad am ae)),.int .i64 120] W fun e w'=>e=.returned (.bool sm)/\Below W.heap.size W w'):=fun W hb=>by rw[hsm];exact aKu x _ 120 W (HTV.out.later hb) uAv uAv
  have HSE:=iH hsm;clear hx hjl hlt htv htv' hrg hsh hcs hmem HQ hsm;have HW0:Hid (Below wr.heap.size wr wr):=aY _ _;cases sm with
  |false=>
   have HAL:Hid (l.all okR=false):=HMM.out (by unfold okR;rw[<-HSE.out];rfl);go_wp2_with (first
    |(refine lM uAz _ rfl b (oo+j*5) rfl (trC ak an att (.slice aa al ac) (.slice ad am ae)) HRG.out rfl ?_)
    |(refine bV rfl 28 _ _ rfl wr.heap.size (trC ak an att (.slice aa al ac) (.slice ad am ae)) rfl rfl 28 (trC 0 0 ⟨#[]⟩ (.slice none 0 0) (.slice none 0 0)) (aF _ _) bO rfl uAy ?_;intro w8 h8 k8;have hb8:Below wr.heap.size wr w8:=(Below.newly' _ _).trans (k8.below (aE _));have H8:=iH h8;replace HW0:=iH hb8;clear hb8 h8 k8)
    |(refine bR rfl 28 _ rfl wr.heap.size rfl 28 _ _ _ H8.out Tryz.underlying28 rfl bO ?_)
    |(go_at_call 35;(with_reducible refine(HSM.out _ HW0.out).mono ?_);rintro r V ⟨rfl,hb⟩;replace HW0:=iH (tW HW0.out hb);clear hb))
   go_ret;refine⟨?_,tW HW.out HW0.out⟩;rw[HAL.out];rfl
  |true=>
   obtain⟨m1,m2,m3⟩:=aHx HSE.out.symm;obtain⟨ck,hck⟩:∃n,n=oX x:=⟨_,rfl⟩
   have HCK:Hid (∀W,Below wr.heap.size wr W->Calls Tryz.prog 20 #[.agg (trC ak an att (.slice aa al ac) (.slice ad am ae))] W fun e w'=>e=.returned (.int .i64 ck)/\Below W.heap.size W w'):=fun W hb=>by rw[hck];exact aKv x _ W (HTV.out.later hb) m1 m2
   have HOK:Hid (okR x=(ck==0)):=by show _=_;unfold okR;rw[<-HSE.out,hck];rfl
   clear m1 m2 m3 hck;by_cases c0:ck=0
   case pos=>
    have hc0:(ck==0)=true:=kL.2 c0;have HGO:=iH (HST.out (HOK.out.trans hc0));clear c0;go_wp2_with (first
     |(refine lM uAz _ rfl b (oo+j*5) rfl (trC ak an att (.slice aa al ac) (.slice ad am ae)) HRG.out rfl ?_)
     |(refine bV rfl 28 _ _ rfl wr.heap.size (trC ak an att (.slice aa al ac) (.slice ad am ae)) rfl rfl 28 (trC 0 0 ⟨#[]⟩ (.slice none 0 0) (.slice none 0 0)) (aF _ _) bO rfl uAy ?_;intro w8 h8 k8;have hb8:Below wr.heap.size wr w8:=(Below.newly' _ _).trans (k8.below (aE _));have H8:=iH h8;replace HW0:=iH hb8;clear hb8 h8 k8)
     |(refine bR rfl 28 _ rfl wr.heap.size rfl 28 _ _ _ H8.out Tryz.underlying28 rfl bO ?_)
     |(go_at_call 35;(with_reducible refine(HSM.out _ HW0.out).mono ?_);rintro r V ⟨rfl,hb⟩;have H9:=iH (kW hb H8.out);replace HW0:=iH (tW HW0.out hb);clear hb)
     |(refine bR uAz 28 _ rfl wr.heap.size rfl 28 _ _ _ H9.out Tryz.underlying28 rfl bO ?_)
     |(go_at_call 20;(with_reducible refine(HCK.out _ HW0.out).mono ?_);rintro r V2 ⟨rfl,hb⟩;replace HW0:=iH (tW HW0.out hb);clear hb))
    go_roundw
    case rel=>exact⟨j+1,by have:=HLT.out;omega,by go_num,HGO.out,tW HW.out HW0.out⟩
    case measure=>have:=HLT.out;simp[intOf];omega
   have hc0:(ck==0)=false:=bJ.2 c0;have HAL:Hid (l.all okR=false):=HMM.out (HOK.out.trans hc0);clear c0;go_wp2_with (first
    |(refine lM uAz _ rfl b (oo+j*5) rfl (trC ak an att (.slice aa al ac) (.slice ad am ae)) HRG.out rfl ?_)
    |(refine bV rfl 28 _ _ rfl wr.heap.size (trC ak an att (.slice aa al ac) (.slice ad am ae)) rfl rfl 28 (trC 0 0 ⟨#[]⟩ (.slice none 0 0) (.slice none 0 0)) (aF _ _) bO rfl uAy ?_;intro w8 h8 k8;have hb8:Below wr.heap.size wr w8:=(Below.newly' _ _).trans (k8.below (aE _));have H8:=iH h8;replace HW0:=iH hb8;clear hb8 h8 k8)
    |(refine bR rfl 28 _ rfl wr.heap.size rfl 28 _ _ _ H8.out Tryz.underlying28 rfl bO ?_)
    |(go_at_call 35;(with_reducible refine(HSM.out _ HW0.out).mono ?_);rintro r V ⟨rfl,hb⟩;have H9:=iH (kW hb H8.out);replace HW0:=iH (tW HW0.out hb);clear hb)
    |(refine bR uAz 28 _ rfl wr.heap.size rfl 28 _ _ _ H9.out Tryz.underlying28 rfl bO ?_)
    |(go_at_call 20;(with_reducible refine(HCK.out _ HW0.out).mono ?_);rintro r V2 ⟨rfl,hb⟩;replace HW0:=iH (tW HW0.out hb);clear hb))
   go_ret;refine⟨?_,tW HW.out HW0.out⟩;rw[HAL.out];rfl
end Go.Proofs.YtengibnpebfblaaGreatDoor
set_option maxRecDepth 1000000
set_option maxHeartbeats 8000000
set_option linter.unusedSimpArgs false
namespace Go.Proofs.YtengibnpebfblaaGreatDoor
open Go.RowKit
theorem aBc:(Tryz.prog.info? 9).map (fun i=>(i.zero,i.size,i.bytes))=some (some (.string ⟨#[]⟩),1,16):=by kernel_rfl
theorem aNC:(Tryz.prog.info? 9).map (fun i=>(i.size,i.zero))=some (1,some (.string ⟨#[]⟩)):=by kernel_rfl
theorem pT:(Tryz.prog.info? 35).map (fun i=>(i.zero,i.size,i.bytes))=some (some (.agg #[.int .i64 0,.int .i64 0,.string ⟨#[]⟩,.pointer none]),4,40):=by kernel_rfl
theorem pS:(Tryz.prog.info? 35).map (fun i=>(i.size,i.zero))=some (4,some (.agg #[.int .i64 0,.int .i64 0,.string ⟨#[]⟩,.pointer none])):=by kernel_rfl
def lU (S:Nat->Prop) (w:World) (v:Value) (l:List Tr):Prop:=∃(a:Option Addr) (c b o:Nat),v=.slice a l.length c/\(l.length<=maxLen/\l.length<=c/\((a=none/\c=0)\/(a=some ⟨b,o,none⟩/\b<w.heap.size)))/\(0<l.length->a=some ⟨b,o,none⟩)/\∀j (h:j<l.length),∃y:Cel,dW l[j]/\VAt S w l[j] y/\w.rangeAt b (o+j*4) (aX y).toList
theorem lU.later {S:Nat->Prop} {w w':World} {v:Value} {l:List Tr} (h:lU S w v l) (hb:Below w.heap.size w w'):lU S w' v l:=by
 obtain⟨a,c,b,o,h1,h2,h3,h4⟩:=h;refine⟨a,c,b,o,h1,⟨h2.1,h2.2.1,h2.2.2.imp_right fun h=>⟨h.1,cQ h.2 hb.size⟩⟩,h3,fun j hj=> ?_⟩;obtain⟨y,q0,q1,q2⟩:=h4 j hj;exact⟨y,q0,q1.later hb,dB q2 hb⟩
theorem lU.weak {S S':Nat->Prop} {w:World} {v:Value} {l:List Tr} (h:lU S w v l) (hs:∀g,S g->S' g):lU S' w v l:=by
 obtain⟨a,c,b,o,h1,h2,h3,h4⟩:=h;refine⟨a,c,b,o,h1,h2,h3,fun j hj=> ?_⟩;obtain⟨y,q0,q1,q2⟩:=h4 j hj;exact⟨y,q0,q1.weak hs,q2⟩
def gV (n0:Nat) (S:Nat->Prop) (w:World) (v:Value) (l:List Tr):Prop:=∃ys:List Cel,ys.length=l.length/\dC n0 35 4 v (ys.map aX) w/\l.length<=200000/\∀j (h:j<l.length) (h':j<ys.length),dW l[j]/\VAt S w l[j] ys[j]
theorem gV.later {n0:Nat} {S:Nat->Prop} {w w':World} {v:Value} {l:List Tr} (h:gV n0 S w v l) (hb:Below w.heap.size w w'):gV n0 S w' v l:=by
 obtain⟨ys,h1,h2,h3,h4⟩:=h;exact⟨ys,h1,h2.later hb,h3,fun j h h'=>⟨(h4 j h h').1,(h4 j h h').2.later hb⟩⟩
theorem gV.weak {n0:Nat} {S S':Nat->Prop} {w:World} {v:Value} {l:List Tr} (h:gV n0 S w v l) (hs:∀g,S g->S' g):gV n0 S' w v l:=by
 obtain⟨ys,h1,h2,h3,h4⟩:=h;exact⟨ys,h1,h2,h3,fun j h h'=>⟨(h4 j h h').1,(h4 j h h').2.weak hs⟩⟩
theorem gV.vaLs {n0:Nat} {S:Nat->Prop} {w:World} {v:Value} {l:List Tr} (h:gV n0 S w v l):lU S w v l:=by
 obtain⟨ys,h1,h2,h3,h4⟩:=h;have hm:l.length<=maxLen:=by unfold maxLen;omega
 by_cases h0:l=[]
 ·subst h0
  have e:(ys.map aX).length=0:=by rw[aH,h1];rfl
  obtain⟨⟨_,h5⟩,_,_⟩:=h2;rw[e]at h5;rcases h5 with⟨rfl,_⟩|⟨g,cap,cur,rfl,a2,a3,_⟩
  ·exact⟨none,0,0,0,rfl,⟨hm,aQ _,.inl ⟨rfl,rfl⟩⟩,fun h=>absurd h (dD _),fun j hj=>absurd hj (dD _)⟩
  ·exact⟨_,cap,g,0,rfl,⟨hm,aQ _,.inr ⟨rfl,(gZ a3)⟩⟩,fun h=>absurd h (dD _),fun j hj=>absurd hj (dD _)⟩
 ·have hne:ys.map aX≠[]:=fun e=>h0 (aT (by rw[<-h1,<-aH (f:=aX),e];rfl))
  obtain⟨g,cap,cur,rfl,_,hgh,hcap,_⟩:=h2.at_ hne;have e:(ys.map aX).length=l.length:=by rw[aH,h1]
  rw[e]at hcap;rw[e];refine⟨_,cap,g,0,rfl,⟨hm,hcap,.inr ⟨rfl,(gZ hgh)⟩⟩,fun _=>rfl,fun j hj=> ?_⟩;have hj':j<ys.length:=by rw[h1];exact hj
  obtain⟨p1,p2⟩:=h4 j hj hj';refine⟨ys[j],p1,p2,?_⟩;have h5:=h2.own.read rfl (i:=j) (c:=aX ys[j]) (by rw[List.getElem?_map,List.getElem?_eq_getElem hj'];rfl);rw[dL];exact h5
theorem oU {ops:Array Oper} {rest:List Oper} {o:Oper} {a:Act} {w:World} {Q:Exit->Act->World->Prop} (hwd:Region.wanted o (yielded ops a.tmps)=true) (y:Operand) (ho:o.op=.load 35 y)
  (b k:Nat) (hx:a.eval y=.pointer (some ⟨b,k,none⟩)) (cs:Array Value) (hR:w.rangeAt b k cs.toList) (hs:cs.size=4)
  (h:wpList Tryz.prog ops Q rest (a.put o.dst (.agg cs)) w):wpList Tryz.prog ops Q (o::rest) a w:=
 wpList_step fun _ hK=>by
  rw[if_pos hwd];exact wp_load_mid 35 y ho b k hx _ _ hR Tryz.underlying35 rfl (by rw[aR,bB,hs]) (hK _ _ h)
theorem aBi {ops:Array Oper} {rest:List Oper} {o:Oper} {a:Act} {Q:Exit->Act->World->Prop} {w:World} (hgd:o.guard=none) (t e:TypeId) (l c:Operand) (hop:o.op=.makeSlice t l c)
  {B s by_:Nat} {z:Value} (hu:Tryz.prog.underlying t=some (.slice e)) (hi:(Tryz.prog.info? e).map (fun i=>(i.zero,i.size,i.bytes))=some (some z,s,by_)) (kl kc:IntKind) (C:Int) (n:Nat) (hl:a.eval l=.int kl 0) (hc:a.eval c=.int kc C) (hC:C=(n:Int)) (hn:n<=10000000) (hby:by_<=1000000) (hB:B<=w.heap.size)
  (h:∀w',dC B e s (.slice (some ⟨w.heap.size,0,none⟩) 0 n) [] w'->Below w.heap.size w w'->wpList Tryz.prog ops Q rest (a.put o.dst (.slice (some ⟨w.heap.size,0,none⟩) 0 n)) w'):wpList Tryz.prog ops Q (o::rest) a w:=
 cW hgd fun _ hK=>by
  obtain⟨i,hi0,hz,h1,h2⟩:=dV hi;have hb1:by_*n<=1000000*10000000:=wW hby hn;obtain⟨w',hrun,r1,r2⟩:=run_make_own (P:=Tryz.prog) w B t e i z s hu hi0 hz h1 kl kc n uKz uCw hB;subst hC;unfold Oper.wp;simp[execOp,hop,hl,hc,hrun,Result.andThen];have hb:Below w.heap.size w w':=(aY _ _).grown r2 (aE _) (fun k hk=>by cases hk);exact hK _ _ (h w' ⟨r1,aG hB hb.size,fun c hc=>by cases hc⟩ hb)
theorem rZ {B:Nat} {e:TypeId} {s:Nat} {v:Value} {cs:List (Array Value)} {w w':World} (h:bP B e s v cs w) (hg:w.grownBy w' v.ownBlock) {X:Nat} (hX:X<=B) (hw:X<=w.heap.size):Below X w w':=by
 rcases h.own with h1|⟨g,cur,fz,h1,h2,h3⟩
 ·rw[h1]at hg
  exact⟨hg.os,hg.tape,hg.output,hg.size,fun k hk=>hg.block k uAu uBu⟩
 ·rw[h1]at hg
  exact⟨hg.os,hg.tape,hg.output,hg.size,fun k hk=>hg.block k uAu uDv⟩
def tN (l:List Tr):List (Array Value):=l.map fun a=> #[.string (kB a)]
theorem aJ9 (l:List Tr) {j:Nat} (h:j<l.length):tN (l.take (j+1))=tN (l.take j)++[#[.string (kB l[j])]]:=by
 unfold tN;rw[aS h,bQ];rfl
theorem vM (l:List Tr) (v:Value) (w:World) (hv:lU (fun _=>True) w v l) (hlen:l.length<=90000) (hT:fW w):Calls Tryz.prog 52 #[v] w fun r w'=>∃u,r=.returned u/\bP w.heap.size 9 1 u (tN l) w'/\Below w.heap.size w w':=by
 obtain⟨ad,cap,b,oo,rfl,hmax,ha,hr⟩:=hv;obtain⟨N,hN⟩:∃N,N=l.length:=⟨_,rfl⟩
 rw[<-hN];have hn4:(N:Int)<=90000:=by omega
 have HNL:Hid (N=l.length/\N<=90000):=⟨hN,by omega⟩
 have HA:=iH ha;have HR:=iH hr;have HT0:=iH (fun W (hb:Below w.heap.size w W)=>hT.below hb);clear hN hr ha hmax hlen hT;go_enter Tryz.func52,Tryz.ntmps52;go_wp2_with (refine aCS (B:=w.heap.size) (by_:=16) (z:=.string ⟨#[]⟩) rfl 25 9 _ _ rfl Tryz.underlying25 aBc .i64 .i64 _ N rfl rfl rfl uIx uAv (aE _) ?_;intro w3 h3 hb3;have HRO:=iH h3;have HB3:=iH hb3;clear h3 hb3)
 go_loopw [3,11] (fun a3 i W=>∃(j:Nat) (iv:Value),j<=N/\i=.int .i64 (j:Int)/\iv=a3/\Hid (bP w.heap.size 9 1 iv (tN (l.take j)) W)/\Hid (Below w.heap.size w W)) (fun _ i _=>N-(intOf i).toNat)
 case atStart=>exact⟨0,_,aQ _,rfl,rfl,HRO.out,HB3.out⟩
 case round=>
  clear HRO HB3
  rename World=>wo
  obtain⟨j,iv,hj,rfl,rfl,HIV,HBR⟩:=hrel;by_cases hlt:j<N
  case neg=>
   obtain rfl:j=N:=by omega
   have hfin:=HIV.out;rw[HNL.out.1,eN]at hfin;have HFIN:=iH hfin;clear hfin;go_wp2_with fail
   go_ret;exact⟨_,rfl,HFIN.out,HBR.out⟩
  have hlt':(j:Int)<(N:Int):=by omega
  have i0:(0:Int)<=(j:Int):=by omega
  have hjl:j<l.length:=by rw[<-HNL.out.1];exact hlt
  obtain rfl:=HA.out uAu;obtain⟨y,hy0,hy1,hrg⟩:=HR.out j hjl;have HRG:=iH (dB hrg HBR.out);have hnx:=aJ9 l hjl;obtain⟨ky,hky⟩:∃k,k=kB l[j]:=⟨_,rfl⟩
  rw[<-hky]at hnx;have HNX:=iH hnx;have HKA:Hid (∀W,Below w.heap.size w W->Calls Tryz.prog 41 #[.agg (aX y)] W fun e w'=>e=.returned (.string ky)/\Below W.heap.size W w'):=fun W hb=>by rw[hky];exact xD W _ y hy0 (hy1.later hb) (HT0.out W hb)
  have HLN:Hid ((tN (l.take j)).length=j):=by show _=_;unfold tN;rw[aH,aV];omega
  have HLT:=iH hlt;have HIV2:=HIV;have HW:=HBR;clear hnx hy0 hy1 hrg hky hlt hjl HIV;go_upto_region 5 with(first
   |(refine oU uAz _ rfl b (oo+j*4) rfl (aX y) HRG.out rfl ?_)
   |(refine bV rfl 35 _ _ rfl wo.heap.size (aX y) rfl rfl 35 #[.int .i64 0,.int .i64 0,.string ⟨#[]⟩,.pointer none] (aF _ _) aR rfl (eU y) ?_;intro w8 h8 k8))
  have hb8:Below wo.heap.size wo w8:=(Below.newly' _ _).trans (k8.below (aE _));have HIV3:=iH (HIV2.out.later hb8);replace HW:=iH (tW HW.out hb8);have H8:=iH h8;clear h8 k8 hb8 HIV2;go_wp2_with (first
   |(refine bR rfl 35 _ rfl wo.heap.size rfl 35 _ _ _ H8.out Tryz.underlying35 rfl aR ?_)
   |(go_at_call 41;(with_reducible refine(HKA.out _ HW.out).mono ?_);rintro r wk ⟨rfl,hb⟩;have HIV4:=iH (HIV3.out.later hb);replace HW:=iH (tW HW.out hb);clear hb)
   |(refine rY rfl 25 9 _ _ rfl (by_:=16) (z:=.string ⟨#[]⟩) (c:=#[.string ky]) rfl (HIV4.out.later (Below.newly' _ _)) _ rfl (aF _ _) rfl uAy Tryz.underlying25 aBc rfl uAv (by have:=HLN.out;have:=HNL.out;have:=HLT.out;omega) uAv ?_;intro v9 w9 hr hg;have HV9:=iH hr;have HB9:Hid (Below w.heap.size w w9):=(HW.out.trans ((Below.newly' wk (.cells #[.string ky] 9)).mono HW.out.size)).trans (rZ (HIV4.out.later (Below.newly' _ _)) hg (aE _) (aG HW.out.size (Below.newly' _ _).size));clear hr hg))
  go_roundw
  case rel=>exact⟨j+1,_,by have:=HLT.out;omega,by go_num,rfl,by rw[HNX.out];exact HV9.out,HB9.out⟩
  case measure=>have:=HLT.out;simp[intOf];omega
theorem gV.snoc {n0:Nat} {S:Nat->Prop} {W':World} {v':Value} {L:List Tr} {ys:List Cel} {x:Tr} {y:Cel} (h1:ys.length=L.length) (h3:L.length<=100000) (h4:∀j (h:j<L.length) (h':j<ys.length),dW L[j]/\VAt S W' L[j] ys[j]) (hr:dC n0 35 4 v' (ys.map aX++[aX y]) W') (hx:dW x) (hy:VAt S W' x y):gV n0 S W' v' (L++[x]):=by
 refine⟨ys++[y],by rw[aD,aD,h1];rfl,by rw[bQ];exact hr,by rw[aD,bM];omega,fun j h h'=> ?_⟩;rw[aD,bM]at h h';rcases cZ j L.length with hj|hj
 ·rw[dK hj,dK uAu]
  exact h4 j hj uAu
 ·obtain rfl:j=L.length:=by omega
  rw[dH (aE _)];have e:(ys++[y])[L.length]=y:=by
   rw[dH uAu];simp
  rw[e];simp;exact⟨hx,hy⟩
theorem dC.low {B B':Nat} {e:TypeId} {s:Nat} {v:Value} {cs:List (Array Value)} {w:World} (h:dC B e s v cs w) (hB:B'<=B):dC B' e s v cs w:=by
 obtain⟨⟨h1,h2⟩,h3,h4⟩:=h;refine⟨⟨h1,h2.imp_right ?_⟩,aG hB h3,h4⟩;rintro⟨g,cap,cur,a1,a2,a3⟩;exact⟨g,cap,cur,a1,aG hB a2,a3⟩
theorem gV.low {n0 n1:Nat} {S:Nat->Prop} {W:World} {v:Value} {l:List Tr} (h:gV n0 S W v l) (hn:n1<=n0):gV n1 S W v l:=by
 obtain⟨ys,h1,h2,h3⟩:=h;exact⟨ys,h1,h2.low hn,h3⟩
theorem gV.lt {n0 g:Nat} {S:Nat->Prop} {W:World} {v:Value} {l:List Tr} (h:gV n0 S W v l) (hg:v.ownBlock=some g):g<W.heap.size:=by
 obtain⟨ys,h1,h2,h3⟩:=h;exact(h2.own.lt hg).2
theorem gV.none {n0:Nat} {S:Nat->Prop} {W:World} {v:Value} (h:dC n0 35 4 v [] W):gV n0 S W v []:=⟨[],rfl,h,aQ _,fun _ h=>absurd h (dD _)⟩
theorem yD {ops:Array Oper} {rest:List Oper} {o:Oper} {a:Act} {Q:Exit->Act->World->Prop} {W:World} (hgd:o.guard=none) (p q:Operand)
  (ho:o.op=.call {callee:=.builtin .append,args:=#[p,q],argTypes:=#[52,52]}) {n0:Nat} {S:Nat->Prop} {v:Value} {L:List Tr} {x:Tr} {y:Cel} (hs:a.eval p=v) (hv:gV n0 S W v L) (hS:∀g,S g->g<n0) (hn:n0<=W.heap.size) (hlen:L.length<=50000)
  (g cc:Nat) (hq:a.eval q=.slice (some ⟨g,0,none⟩) 1 cc) (hg:W.heap[g]? =some (.cells (aX y) 35 (0,0))) (hx:dW x) (hy:VAt S W x y)
  (h:∀v' w',gV n0 S w' v' (L++[x])->Below n0 W w'->W.grownBy w' v.ownBlock->(v'.ownBlock=v.ownBlock\/∃g',v'.ownBlock=some g'/\W.heap.size<=g')->wpList Tryz.prog ops Q rest (a.put o.dst v') w'):wpList Tryz.prog ops Q (o::rest) a W:=
 cW hgd fun _ hK=>by
  obtain⟨ys,h1,h2,h3,h4⟩:=hv;refine oR 52 35 p q ho (by_:=40) (z:=(.agg #[.int .i64 0,.int .i64 0,.string ⟨#[]⟩,.pointer none])) hs h2 g cc hq hg rfl (eU y) Tryz.underlying52 pT rfl uAv (by rw[aH,h1];omega) uAv ?_;intro v' w' r1 r2 r3;have hb:Below n0 W w':=rZ h2.own r2 (aE _) hn;have hlow:∀(t:Tr) (c:Cel),VAt S W t c->VAt S w' t c:=fun t c ht=>ht.kq (Kq.low hb hS)
  exact hK _ _ (h v' w' (gV.snoc h1 uAu (fun j q1 q2=>⟨(h4 j q1 q2).1,hlow _ _ (h4 j q1 q2).2⟩) r1 hx (hlow _ _ hy)) hb r2 r3)
end Go.Proofs.YtengibnpebfblaaGreatDoor
