import Derived.Test.YtengibnpebfblaaGreatDoorQ0
import Derived.Test.YtengibnpebfblaaGreatDoorQ45
import Derived.Test.YtengibnpebfblaaGreatDoorQ47
import Derived.Test.YtengibnpebfblaaGreatDoorQ48
import Derived.Test.YtengibnpebfblaaGreatDoorQ49
import Derived.Test.YtengibnpebfblaaGreatDoorQ44
import Derived.Test.YtengibnpebfblaaGreatDoorQ50
set_option maxRecDepth 1000000
set_option maxHeartbeats 8000000
set_option linter.unusedSimpArgs false
/-Law OrderSorts. (written by tools/gen12/srts.py)-/
namespace Go.Proofs.YtengibnpebfblaaGreatDoor
open Go.RowKit
theorem aIv {w:World} {g:Nat} {a:Tr} {ca:Array Value} (h5:ca.size=5) (ha:TrV w a (.agg ca)) (h:∀j u,ca.toList[j]? =some u->w.cell? ⟨g,j,none⟩=some u):sV w (.slice (some ⟨g,0,none⟩) 1 1) [a]:=by
  refine⟨_,1,g,0,rfl,(by decide:1<=maxLen),fun _=>rfl,fun j hj=> ?_⟩
  match j,hj with
  |0,_=>exact⟨ca,h5,ha,fun k u hu=>by simpa using h k u hu⟩
  |k+1,hj=>exact absurd hj uBu
theorem orderSorts_walk (s1:Nat) (b1:Int) (s2:Nat) (b2:Int) (v:Value) (l:List Tr) (u:Value) (a:Tr) (hs1:s1<18446744073709551616) (hs2:s2<18446744073709551616) (w:World) (hv:sV w v l) (hu:TrV w a u) (hT:fW w):
    Calls Tryz.prog 6 #[.agg #[.int .u64 (s1:Int),.int .i64 b1],.agg #[.int .u64 (s2:Int),.int .i64 b2],v,u] w fun e w'=>e=.returned (.bool true)/\Below w.heap.size w w':=by
  obtain⟨ak,an,att,aa,al,ac,ad,am,ae,rfl⟩:=kG hu;have hra:=oG a _ hu;obtain⟨w1,hw1⟩:∃w1,((w.alloc (.cells #[.int .u64 (s1:Int),.int .i64 b1] 24)).alloc (.cells #[.int .u64 (s2:Int),.int .i64 b2] 24)).alloc (.cells (trC ak an att (.slice aa al ac) (.slice ad am ae)) 28)=w1:=⟨_,rfl⟩
  obtain⟨hb1,hx1,hx2,hx3,_⟩:=xG hw1;have HX1:=aJ (fun W (hb:Below w1.heap.size w1 W)=>(hb.block _ (Array.getElem?_eq_some_iff.1 hx1).1).trans hx1);have HX2:=aJ (fun W (hb:Below w1.heap.size w1 W)=>(hb.block _ (Array.getElem?_eq_some_iff.1 hx2).1).trans hx2);have HX3:=aJ (fun W (hb:Below w1.heap.size w1 W)=>(hb.block _ (Array.getElem?_eq_some_iff.1 hx3).1).trans hx3);have HB1:=aJ hb1;have HVL:=aJ (fun W (hb:Below w1.heap.size w1 W)=>(hv.later hb1).later hb);have HVA:=aJ (fun W (hb:Below w1.heap.size w1 W)=>(hu.later hb1).later hb);have HT1:=aJ (fun W (hb:Below w1.heap.size w1 W)=>(hT.below hb1).below hb);have HLV:=aJ (fun W (hb:Below w1.heap.size w1 W)=>aJ2 W (HT1.out W hb));obtain⟨rl,hrl⟩:∃r,r=(l.all okR&&decide (l.length<=12)):=⟨_,rfl⟩
  obtain⟨rt,hrt⟩:∃r,r=okR a:=⟨_,rfl⟩
  have HRL:Hid (∀W,Below w1.heap.size w1 W->Calls Tryz.prog 10 #[v] W fun e w'=>e=.returned (.bool rl)/\Below W.heap.size W w'):=fun W hb=>by rw[hrl];exact aFD W v l (HVL.out W hb)
  have HRT:Hid (∀W,Below w1.heap.size w1 W->Calls Tryz.prog 10 #[.slice (some ⟨W.heap.size,0,none⟩) 1 1] (W.alloc (.cells #[.int .i64 ak,.int .i64 an,.string att,.slice aa al ac,.slice ad am ae] 28)) fun e w'=>e=.returned (.bool rt)/\Below W.heap.size W w'):=fun W hb=>by
    have hbn:=Below.newly' W (.cells #[.int .i64 ak,.int .i64 an,.string att,.slice aa al ac,.slice ad am ae] 28);have hl:=aF W (.cells #[.int .i64 ak,.int .i64 an,.string att,.slice aa al ac,.slice ad am ae] 28);have h:=aFD (W.alloc (.cells #[.int .i64 ak,.int .i64 an,.string att,.slice aa al ac,.slice ad am ae] 28)) _ [a] (aIv rfl ((HVA.out W hb).later hbn) (fun j u hu=>aK hl uKx));rw[hrt];refine h.mono fun e w' h=>⟨by rw[h.1];simp,hbn.trans (h.2.mono hbn.size)⟩
  have HRE:=aJ (And.intro hrl hrt);have HVV:=aJ (And.intro hv (And.intro hra (And.intro hs1 hs2)));have HW:Hid (Below w1.heap.size w1 w1):=aY _ _;clear hx1 hx2 hx3 hb1 hv hu hT hrl hrt hs1 hs2 hra;cases rl with
  |false=>
   go_enter Tryz.func6,Tryz.ntmps6;go_upto_region 1 with fail
   clear hw1;go_wp2_with (first
     |(go_at_call 9;(with_reducible refine(HLV.out _ HW.out).mono ?_);rintro r V ⟨rfl,hb⟩;replace HW:=aJ (HW.out.trans (hb.mono HW.out.size));clear hb)
     |(go_at_call 10;(with_reducible refine(HRL.out _ HW.out).mono ?_);rintro r V ⟨rfl,hb⟩;replace HW:=aJ (HW.out.trans (hb.mono HW.out.size));clear hb)
     |(go_at_call 10;(with_reducible refine(HRT.out _ HW.out).mono ?_);rintro r V ⟨rfl,hb⟩;replace HW:=aJ (HW.out.trans (hb.mono HW.out.size));clear hb)
     |(refine bR uAz 28 _ rfl (w.heap.size+2) rfl 28 _ _ _ (HX3.out _ HW.out) Tryz.underlying28 rfl bO ?_))
   have hb:=HB1.out.trans (HW.out.mono HB1.out.size);go_ret;exact⟨rfl,hb⟩
  |true=>
  cases rt with
  |false=>
   go_enter Tryz.func6,Tryz.ntmps6;go_upto_region 1 with fail
   clear hw1;go_wp2_with (first
     |(go_at_call 9;(with_reducible refine(HLV.out _ HW.out).mono ?_);rintro r V ⟨rfl,hb⟩;replace HW:=aJ (HW.out.trans (hb.mono HW.out.size));clear hb)
     |(go_at_call 10;(with_reducible refine(HRL.out _ HW.out).mono ?_);rintro r V ⟨rfl,hb⟩;replace HW:=aJ (HW.out.trans (hb.mono HW.out.size));clear hb)
     |(go_at_call 10;(with_reducible refine(HRT.out _ HW.out).mono ?_);rintro r V ⟨rfl,hb⟩;replace HW:=aJ (HW.out.trans (hb.mono HW.out.size));clear hb)
     |(refine bR uAz 28 _ rfl (w.heap.size+2) rfl 28 _ _ _ (HX3.out _ HW.out) Tryz.underlying28 rfl bO ?_))
   have hb:=HB1.out.trans (HW.out.mono HB1.out.size);go_ret;exact⟨rfl,hb⟩
  |true=>
   obtain⟨ol,nl⟩:=aNQ HRE.out.1.symm;have hval:=aLG HVV.out.1 ol;obtain⟨a1,a2,a3,a4,a5,a6⟩:=aE1 HRE.out.2.symm HVV.out.2.1;have HAL:=aJ (fun W (hb:Below w1.heap.size w1 W)=>aNT s1 b1 s2 b2 l v W HVV.out.2.2.1 HVV.out.2.2.2 (HVL.out W hb) ol uAu (HT1.out W hb));have HOF:Hid (∀W,Below w1.heap.size w1 W->Calls Tryz.prog 11 #[.agg #[.int .u64 (s1:Int),.int .i64 b1],.agg (trC ak an att (.slice aa al ac) (.slice ad am ae))] W fun e w'=>∃y,e=.returned (.agg (aX y))/\VAt (fun _=>True) w' (cU a) y/\Below W.heap.size W w'):=fun W hb=>by
     have h:=aD7 s1 b1 a _ W HVV.out.2.2.1 (HVA.out W hb) a1 a2 uAu (HT1.out W hb);rw[a5]at h;exact h.mono fun e w' h=>by obtain⟨y,h1,h2,h3⟩:=h;exact⟨y,h1,h2.weak fun _ _=>trivial,h3⟩
   have HCN:Hid (∀W,Below w1.heap.size w1 W->Calls Tryz.prog 12 #[.agg (trC ak an att (.slice aa al ac) (.slice ad am ae))] W fun e w'=>∃c,e=.returned (.agg c)/\TrV w' (cU a) (.agg c)/\Below W.heap.size W w'):=fun W hb=>by
     obtain⟨k1,k2,k3⟩:=mN.1 a4;exact(aBl a _ W (HVA.out W hb) k1 k2 k3 a2).mono fun e w' h=>by
       obtain⟨c,h1,_,h3,h4⟩:=h;exact⟨c,h1,h3.trv,h4⟩
   have HVT:=aJ a6;obtain⟨x,hx⟩:∃x,x=l.map cU:=⟨_,rfl⟩
   obtain⟨z,hz⟩:∃z,z=cU a:=⟨_,rfl⟩
   have hnx:x.length<=12:=by rw[hx,aH];exact nl
   rw[<-hx]at hval HAL;rw[<-hz]at HOF HCN HVT;have HVB:=aJ hval;have HNX:=aJ hnx;clear ol nl a1 a2 a3 a4 a5 a6 hx hz hval hnx HRE HVV HVL HVA;go_enter Tryz.func6,Tryz.ntmps6;go_upto_region 1 with fail
   clear hw1;go_upto_region 4 with(first
     |(go_at_call 9;(with_reducible refine(HLV.out _ HW.out).mono ?_);rintro r V ⟨rfl,hb⟩;replace HW:=aJ (HW.out.trans (hb.mono HW.out.size));clear hb)
     |(go_at_call 10;(with_reducible refine(HRL.out _ HW.out).mono ?_);rintro r V ⟨rfl,hb⟩;replace HW:=aJ (HW.out.trans (hb.mono HW.out.size));clear hb)
     |(go_at_call 10;(with_reducible refine(HRT.out _ HW.out).mono ?_);rintro r V ⟨rfl,hb⟩;replace HW:=aJ (HW.out.trans (hb.mono HW.out.size));clear hb)
     |(refine bR uAz 28 _ rfl (w.heap.size+2) rfl 28 _ _ _ (HX3.out _ HW.out) Tryz.underlying28 rfl bO ?_)
     |(refine bR uAz 24 _ rfl w.heap.size rfl 24 _ _ _ (HX1.out _ HW.out) Tryz.underlying24 rfl eG ?_)
     |(refine bR uAz 24 _ rfl (w.heap.size+1) rfl 24 _ _ _ (HX2.out _ HW.out) Tryz.underlying24 rfl eG ?_)
     |(go_at_call 22;(with_reducible refine(HAL.out _ HW.out).mono ?_);rintro r wa ⟨vx,tx,rfl,hxx,hb⟩;have HXX:=aJ hxx;replace HW:=aJ (HW.out.trans (hb.mono HW.out.size));clear hb hxx))
   obtain⟨hlx,htx⟩:=HXX.out.lists uNw uNw;have HWA:=HW;have HS1:=aJ (fun V (hb:Below wa.heap.size wa V)=>aMJ x vx V (hlx.later hb) HNX.out HVB.out (HT1.out V (HWA.out.trans (hb.mono HWA.out.size))));have HUQ:=aJ (fun V (hb:Below wa.heap.size wa V)=>aMI x vx V (hlx.later hb) HNX.out HVB.out (HT1.out V (HWA.out.trans (hb.mono HWA.out.size))));have HRS:=aJ (fun V (hb:Below wa.heap.size wa V)=>aIO x tx V (htx.later hb) HVB.out uNw);have HRU:=aJ (fun V (hb:Below wa.heap.size wa V)=>aIN x tx V (htx.later hb) HVB.out uNw);have HSB:Hid (∀y∈fT x,dW y):=fun y hy=>HVB.out y ((jL _).mem_iff.1 hy)
   have HML:Hid ((fT x).length<=200000/\(aB9 x).length<=200000):=by
     have h1:(fT x).length<=12:=by rw[qD];exact HNX.out
     have h2:(aB9 x).length<=(fT x).length:=by rw[<-aHs];exact aGy _ _
     show _/\_;omega
   have HSM:Hid (∀V va tb y,Below wa.heap.size wa V->lU (fun _=>True) V va y->sV V tb y->Calls Tryz.prog 24 #[va,tb] V fun e w'=>e=.returned (.bool true)/\Below V.heap.size V w'):=fun V va tb y hb h1 h2=>aMO _ _ va tb V h1 h2 (HT1.out V (HWA.out.trans (hb.mono HWA.out.size))) true ⟨fun _=>rfl,fun _=>rfl⟩
   have HFD:Hid (∀V va y,Below wa.heap.size wa V->lU (fun _=>True) V va (fT x)->VAt (fun _=>True) V z y->Calls Tryz.prog 28 #[va,.agg (aX y)] V fun r w'=>r=.returned (.tuple #[.int .i64 ((nY (fT x) z).1:Int),.bool (nY (fT x) z).2])/\Below V.heap.size V w'):=fun V va y hb h1 h2=>aMK (fT x) z va y V h1 (by have:=HML.out;rw[qD];have:=HNX.out;omega) (mT x) h2 HVT.out (HT1.out V (HWA.out.trans (hb.mono HWA.out.size)))
   have HRF:Hid (∀V va c,sV V va (fT x)->TrV V z (.agg c)->Calls Tryz.prog 29 #[va,.agg c] V fun r w'=>r=.returned (.tuple #[.int .i64 ((nY (fT x) z).1:Int),.bool (nY (fT x) z).2])/\Below V.heap.size V w'):=fun V va c h1 h2=>aIP (fT x) z va _ V h1 h2 HSB.out HVT.out
   have HVX:=aJ hlx;have HTX:=aJ htx;obtain⟨fi,hfi⟩:∃n,n=(nY (fT x) z).1:=⟨_,rfl⟩
   obtain⟨fb,hfb⟩:∃n,n=(nY (fT x) z).2:=⟨_,rfl⟩
   rw[<-hfi,<-hfb]at HFD HRF;clear hlx htx hfi hfb HXX HAL HLV HRL HRT;replace HW:Hid (Below wa.heap.size wa wa):=aY _ _;go_upto_region 5 with(first
     |(go_at_call 23;(with_reducible refine(HS1.out _ HW.out).mono ?_);rintro r we ⟨p1,rfl,hp,_,hb⟩;have HP1:=aJ (hp.vaLs.weak (S':=fun _=>True) fun _ _=>trivial);replace HW:=aJ (HW.out.trans (hb.mono HW.out.size));clear hb hp))
   go_upto_region 7 with(first
     |(go_at_call 25;(with_reducible refine(HRS.out _ HW.out).mono ?_);rintro r wf ⟨p2,css,rfl,hr,ht,hb⟩;have HP2:=aJ (aDS hr ht hb HML.out.1);replace HP1:=aJ (HP1.out.later hb);replace HW:=aJ (HW.out.trans (hb.mono HW.out.size));clear hb hr ht)
     |(go_at_call 24;(with_reducible refine(HSM.out _ _ _ _ HW.out HP1.out HP2.out).mono ?_);rintro r wg ⟨rfl,hb⟩;replace HP1:=aJ (HP1.out.later hb);replace HW:=aJ (HW.out.trans (hb.mono HW.out.size));clear hb)
     |(go_at_call 26;(with_reducible refine(HUQ.out _ HW.out).mono ?_);rintro r wh ⟨p3,rfl,hp,_,hb⟩;have HP3:=aJ hp;replace HP1:=aJ (HP1.out.later hb);replace HW:=aJ (HW.out.trans (hb.mono HW.out.size));clear hb hp)
     |(go_at_call 27;(with_reducible refine(HRU.out _ HW.out).mono ?_);rintro r wi ⟨p4,css,rfl,hr,ht,hb⟩;have HP4:=aJ (aDS hr ht hb HML.out.2);replace HP3:=aJ (HP3.out.later hb);replace HP1:=aJ (HP1.out.later hb);replace HW:=aJ (HW.out.trans (hb.mono HW.out.size));clear hb hr ht)
     |(go_at_call 24;(with_reducible refine(HSM.out _ _ _ _ HW.out HP3.out HP4.out).mono ?_);rintro r wj ⟨rfl,hb⟩;replace HP1:=aJ (HP1.out.later hb);have HV5:=aJ (HVX.out.later (HW.out.trans (hb.mono HW.out.size)));have HT5:=aJ (HTX.out.later (HW.out.trans (hb.mono HW.out.size)));replace HW:=aJ (HW.out.trans (hb.mono HW.out.size));clear hb)
     |(go_at_call 24;(with_reducible refine(HSM.out _ _ _ _ HW.out HV5.out HT5.out).mono ?_);rintro r wk ⟨rfl,hb⟩;replace HP1:=aJ (HP1.out.later hb);replace HW:=aJ (HW.out.trans (hb.mono HW.out.size));clear hb))
   have HXA:=aJ (fun V (hb:Below wa.heap.size wa V)=>HX1.out V (HWA.out.trans (hb.mono HWA.out.size)));have HXC:=aJ (fun V (hb:Below wa.heap.size wa V)=>HX3.out V (HWA.out.trans (hb.mono HWA.out.size)));have HOA:=aJ (fun V (hb:Below wa.heap.size wa V)=>HOF.out V (HWA.out.trans (hb.mono HWA.out.size)));have HCA:=aJ (fun V (hb:Below wa.heap.size wa V)=>HCN.out V (HWA.out.trans (hb.mono HWA.out.size)));go_upto_region 8 with(first
     |(refine bR uAz 24 _ rfl w.heap.size rfl 24 _ _ _ (HXA.out _ HW.out) Tryz.underlying24 rfl eG ?_)
     |(refine bR uAz 28 _ rfl (w.heap.size+2) rfl 28 _ _ _ (HXC.out _ HW.out) Tryz.underlying28 rfl bO ?_)
     |(go_at_call 11;(with_reducible refine(HOA.out _ HW.out).mono ?_);rintro r wl ⟨y,rfl,hy,hb⟩;have HY:=aJ hy;replace HP1:=aJ (HP1.out.later hb);replace HW:=aJ (HW.out.trans (hb.mono HW.out.size));clear hb hy)
     |(go_at_call 28;(with_reducible refine(HFD.out _ _ _ HW.out HP1.out HY.out).mono ?_);rintro r wm ⟨rfl,hb⟩;replace HW:=aJ (HW.out.trans (hb.mono HW.out.size));clear hb))
   have HKS:Hid (∀V,Below wm.heap.size wm V->V.heap[w.heap.size+2]? =some (.cells (trC ak an att (.slice aa al ac) (.slice ad am ae)) 28 (0,0))):=fun V hb=>HXC.out V (HW.out.trans (hb.mono HW.out.size))
   have HRS2:=aJ (fun V (hb:Below wm.heap.size wm V)=>HRS.out V (HW.out.trans (hb.mono HW.out.size)));have HCA2:=aJ (fun V (hb:Below wm.heap.size wm V)=>HCA.out V (HW.out.trans (hb.mono HW.out.size)));have HWM:=HW;replace HW:Hid (Below wm.heap.size wm wm.drew):=bE wm;refine bL (S:=(fun V=>V.heap[w.heap.size+2]? =some (.cells (trC ak an att (.slice aa al ac) (.slice ad am ae)) 28 (0,0)))) [] hO uAw (fun hHeld=> ?_);refine aI (i:=0) (oi:=⟨some 67,_,_,_,_,_⟩) (v:=?vg1_0) rfl hO hO hO hO (fun _ _ _ h=>h) (Or.inl ⟨by rfl,?hg1_0⟩) uAx ?rg1_0
   case hg1_0=>(intro w hSw;(try dsimp only at hSw);first|(go_simp;done)|(go_simp;with_reducible rfl))
   (try simp only[Act.put,aA,aB,aC]);refine aI (i:=2) (oi:=⟨some 69,_,_,_,_,_⟩) (v:=_) rfl hO hO hO hO (fun _ _ _ h=>h) (aP uAz 28 _ rfl (w.heap.size+2) rfl (trC ak an att (.slice aa al ac) (.slice ad am ae)) 28 (0,0) _ (fun w hw=>hw) Tryz.underlying28 rfl uCy) uAx ?_;(try simp only[Act.put,aA,aB,aC]);refine jE (i:=1) (o:=⟨some 68,_,_,_,_,_⟩) hO rfl (fun K hK=> ?_);go_simp;go_at_call 25;(with_reducible refine(HRS2.out _ uBy).mono ?_);rintro r wn ⟨p5,css,rfl,hr,ht,hb⟩;have HP5:=aJ (aDS hr ht hb HML.out.1);replace HW:=aJ (HW.out.trans (hb.mono HW.out.size));clear hb hr ht;dsimp only;refine hK.out _ _ uAw (fun hHeld=> ?_);clear hK K;(try simp only[Act.put,aA,aB,aC]);refine jE (i:=3) (o:=⟨some 70,_,_,_,_,_⟩) hO rfl (fun K hK=> ?_);go_simp;go_at_call 12;(with_reducible refine(HCA2.out _ uBy).mono ?_);rintro r wo ⟨cc,rfl,hc,hb⟩;have HC:=aJ hc;replace HP5:=aJ (HP5.out.later hb);replace HW:=aJ (HW.out.trans (hb.mono HW.out.size));clear hb hc;dsimp only;refine hK.out _ _ uAw (fun hHeld=> ?_);clear hK K;(try simp only[Act.put,aA,aB,aC]);refine jE (i:=4) (o:=⟨some 71,_,_,_,_,_⟩) hO rfl (fun K hK=> ?_);go_simp;go_at_call 29;(with_reducible refine(HRF.out _ _ _ HP5.out HC.out).mono ?_);rintro r wq ⟨rfl,hb⟩;replace HW:=aJ (HW.out.trans (hb.mono HW.out.size));clear hb;dsimp only;refine hK.out _ _ uAw (fun hHeld=> ?_);clear hK K;(try simp only[Act.put,aA,aB,aC])
   refine aI (i:=5) (oi:=⟨some 66,_,_,_,_,_⟩) (v:=?vg1_5) rfl hO hO hO hO (fun _ _ _ h=>h) (Or.inl ⟨by rfl,?hg1_5⟩) uAx ?rg1_5
   case hg1_5=>(intro w hSw;(try dsimp only at hSw);first|(go_simp;done)|(go_simp;with_reducible rfl))
   (try simp only[Act.put,aA,aB,aC]);refine aI (i:=6) (oi:=⟨some 72,_,_,_,_,_⟩) (v:=?vg1_6) rfl hO hO hO hO (fun _ _ _ h=>h) (Or.inl ⟨by rfl,?hg1_6⟩) uAx ?rg1_6
   case hg1_6=>(intro w hSw;(try dsimp only at hSw);first|(go_simp;done)|(go_simp;with_reducible rfl))
   (try simp only[Act.put,aA,aB,aC]);refine aI (i:=7) (oi:=⟨some 73,_,_,_,_,_⟩) (v:=?vg1_7) rfl hO hO hO hO (fun _ _ _ h=>h) (Or.inl ⟨by rfl,?hg1_7⟩) uAx ?rg1_7
   case hg1_7=>(intro w hSw;(try dsimp only at hSw);first|(go_simp;done)|(go_simp;with_reducible rfl))
   (try simp only[Act.put,aA,aB,aC]);refine aI (i:=8) (oi:=⟨some 14,_,_,_,_,_⟩) (v:=?vg1_8) rfl hO hO hO hO (fun _ _ _ h=>h) (Or.inl ⟨by rfl,?hg1_8⟩) uAx ?rg1_8
   case hg1_8=>(intro w hSw;(try dsimp only at hSw);first|(go_simp;done)|(go_simp;with_reducible rfl))
   (try simp only[Act.put,aA,aB,aC]);refine aI (i:=9) (oi:=⟨some 15,_,_,_,_,_⟩) (v:=?vg1_9) rfl hO hO hO hO (fun _ _ _ h=>h) (Or.inl ⟨by rfl,?hg1_9⟩) uAx ?rg1_9
   case hg1_9=>(intro w hSw;(try dsimp only at hSw);first|(go_simp;done)|(go_simp;with_reducible rfl))
   (try simp only[Act.put,aA,aB,aC]);refine bK hO ?_ _;clear hHeld;go_wp2_with fail
   go_ret;refine⟨by simp,HB1.out.trans ((HWA.out.trans ((HWM.out.trans (HW.out.mono HWM.out.size)).mono HWA.out.size)).mono HB1.out.size)⟩
end Go.Proofs.YtengibnpebfblaaGreatDoor
