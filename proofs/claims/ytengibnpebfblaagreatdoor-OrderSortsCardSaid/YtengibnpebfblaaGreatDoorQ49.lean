import Derived.Test.YtengibnpebfblaaGreatDoorQ0
import Derived.Test.YtengibnpebfblaaGreatDoorQ44
import Derived.Test.YtengibnpebfblaaGreatDoorQ46
import Derived.Test.YtengibnpebfblaaGreatDoorQ36
set_option maxRecDepth 1000000
set_option maxHeartbeats 8000000
set_option linter.unusedSimpArgs false
/-The document's Uniq of trees. (written by tools/gen12/uniq12.py)-/
namespace Go.Proofs.YtengibnpebfblaaGreatDoor
open Go.RowKit
theorem pD.snoc {W:World} {ys:List Tr} {css:List (Array Value)} {x:Tr} {c:Array Value} (h:pD W ys css) (hx:TrV W x (.agg c)):pD W (ys++[x]) (css++[c]):=⟨by rw[aD,aD,h.1];rfl,fun k h1 h2=>by
  rcases cZ k ys.length with hk|hk
  ·rw[dK hk,dK (by rw[<-h.1];exact hk)]
   exact h.2 k hk _
  ·obtain rfl:k=ys.length:=by rw[aD,bM]at h1;omega
   rw[dH (aE _),dH (by rw[h.1];exact aE _)];simp[h.1,hx]⟩
theorem aNh (P:List Tr) (t:Tr):(lT P t).length<=P.length+1:=by
  unfold lT;split
  ·simp
  ·omega
theorem aGi:∀(l P:List Tr),(l.foldl lT P).length<=P.length+l.length
  |[],P=>by simp
  |x::r,P=>by
   have h1:=aGi r (lT P x);have h2:=aNh P x;rw[gN,aL];omega
theorem aGh:∀(l P:List Tr) (x:Tr),x∈l.foldl lT P->x∈P\/x∈l
  |[],P,x,h=>.inl h
  |y::r,P,x,h=>by
   rw[gN]at h;rcases aGh r _ x h with h|h
   ·unfold lT at h
    split at h
    ·rcases cP.1 h with h|h
     ·exact .inl h
     ·exact .inr (by rw[cB.1 h];exact aW)
    ·exact .inl h
   ·exact .inr (aU _ h)
theorem aLU (l:List Tr) (j:Nat):((l.take j).foldl lT []).length<=j:=by
  have h:=aGi (l.take j) [];rw[aV]at h;simp only[bG]at h;omega
theorem aIN (l:List Tr) (v:Value) (w:World) (hv:sV w v l) (hl:∀x∈l,dW x) (hlen:l.length<=20000):Calls Tryz.prog 27 #[v] w fun e w'=>∃v' css,e=.returned v'/\dC w.heap.size 28 5 v' css w'/\pD w (aB9 l) css/\Below w.heap.size w w':=by
  obtain⟨N,hN⟩:∃N,N=l.length:=⟨_,rfl⟩
  have hn4:(N:Int)<=20000:=by omega
  have HNL:Hid (N=l.length/\N<=20000):=⟨hN,by omega⟩
  have hsl:(fT l).length=N:=by rw[qD,hN]
  have HSL:=aJ hsl;have HLB:Hid (∀x∈fT l,dW x):=fun x hx=>hl x ((jL _).mem_iff.1 hx)
  have HS0:Hid (dC w.heap.size 28 5 (.slice (some ⟨w.heap.size,0,none⟩) 0 0) [] (w.alloc (.cells #[] 28))):=lK (aE _) uBu (aF _ _);have HB0':Hid (Below w.heap.size w (w.alloc (.cells #[] 28))):=Below.newly' w _;have HSO:Hid (Calls Tryz.prog 25 #[v] (w.alloc (.cells #[] 28)) fun e w'=>∃sa sc css,e=.returned (.slice sa N sc)/\dC (w.heap.size+1) 28 5 (.slice sa N sc) css w'/\pD w (fT l) css/\Below (w.alloc (.cells #[] 28)).heap.size (w.alloc (.cells #[] 28)) w'):=
    (aCW l v w _ hv HB0'.out hl hlen).mono fun e w' h=>by
      obtain⟨v',css,h1,h2,h3,h4⟩:=h;obtain⟨a,c,hs⟩:=h2.own.shape';have hc:css.length=N:=by rw[<-h3.1,hsl]
      rw[hc]at hs;subst hs;exact⟨a,c,css,h1,by simpa using h2,h3,h4⟩
  clear hN hsl hl hlen hv;go_enter Tryz.func27,Tryz.ntmps27;go_wp2_with (go_at_call 25;(with_reducible refine HSO.out.mono ?_);rintro r wS ⟨sa,sc,css,rfl,hs,ht,hb⟩;have HSV:=aJ hs;have HST:=aJ ht;have HBS:=aJ (HB0'.out.trans (hb.mono HB0'.out.size));have HU0:=aJ (HS0.out.later hb);clear hs ht hb)
  go_loopw [3,10] (fun a3 i W=>∃(j:Nat) (uv:Value) (ds:List (Array Value)),j<=N/\i=.int .i64 (j:Int)/\uv=a3/\Hid (dC w.heap.size 28 5 uv ds W)/\Hid (pD w (((fT l).take j).foldl lT []) ds)/\Hid (dC (w.heap.size+1) 28 5 (.slice sa N sc) css W)/\Hid (∀g,(Value.slice sa N sc).ownBlock=some g->uv.ownBlock≠some g)/\Hid (Below w.heap.size w W)) (fun _ i _=>N-(intOf i).toNat)
  case atStart=>
    refine⟨0,_,[],aQ _,rfl,rfl,HU0.out,⟨rfl,fun k h _=>absurd h (dD _)⟩,HSV.out,?_,HBS.out⟩;intro g hg he;have hg2:w.heap.size=g:=by simpa[Value.ownBlock]using he
    rcases HSV.out.1.2 with⟨e,_⟩|⟨g',cap,cur,e,h3,_⟩
    ·rw[e]at hg
     simp[Value.ownBlock]at hg
    ·rw[e]at hg
     have:g'=g:=by simpa[Value.ownBlock]using hg
     omega
  case round=>
    clear HS0 HB0' HU0 HSO
    rename World=>wo
    obtain⟨j,uv,ds,hj,rfl,rfl,HUV,HUT,HSV2,HNE,HBR⟩:=hrel;by_cases hlt:j<N
    case neg=>
      obtain rfl:j=N:=by omega
      have hfin:pD w (aB9 l) ds:=by
        have h:=HUT.out;rw[aZ (by rw[HSL.out];exact aE _)]at h;exact h
      have HFIN:=aJ hfin;clear hfin;go_wp2_with fail
      go_ret;exact⟨_,ds,rfl,HUV.out,HFIN.out,HBR.out⟩
    have hlt':(j:Int)<(N:Int):=by omega
    have i0:(0:Int)<=(j:Int):=by omega
    have hcl:css.length=N:=by rw[<-HST.out.1,HSL.out]
    have hjl:j<(fT l).length:=by rw[HSL.out];exact hlt
    have hjc:j<css.length:=by rw[hcl];exact hlt
    have hyt:=HST.out.2 j hjl hjc;obtain⟨y,hy⟩:∃y,y=(fT l)[j]:=⟨_,rfl⟩
    rw[<-hy]at hyt;have hyb:dW y:=by rw[hy];exact HLB.out _ (aO hjl)
    have hnext:((fT l).take (j+1)).foldl lT []=lT (((fT l).take j).foldl lT []) y:=by rw[aS hjl,nO,hy];rfl
    obtain⟨P,hP⟩:∃P,P=((fT l).take j).foldl lT []:=⟨_,rfl⟩
    rw[<-hP]at hnext HUT;obtain⟨xk,xn,xt,xa,xl,xc,xd,xm,xe,e⟩:=hyt.cells;have hck:=tL HSV2.out.own.lsT;rw[hcl]at hck;obtain⟨g,o,c,e0,_,_,_,h⟩:=hck.pos uAu;have hrg:wo.rangeAt g (o+j*5) css[j].toList:=fun i u hu=>by
      have h2:=h (j*5+i) u (aBW 5 css j i u HSV2.out.2.2 hjc hu);rw[<-tZ]at h2;exact h2
    rw[e]at hyt hrg;have hsa:sa=some ⟨g,o,none⟩:=by injection e0
    subst hsa;have HRG:=aJ hrg;have HYT:=aJ hyt;have HYB:=aJ hyb;have HNX:=aJ hnext;have HCL:=aJ hcl;have hltN:=hlt;clear hyt hyb hnext hcl hjl hjc hck h e0 hrg e hy;go_upto_region 5 with(first
      |(refine lM uAz _ rfl g (o+j*5) rfl (trC xk xn xt (.slice xa xl xc) (.slice xd xm xe)) HRG.out rfl ?_)
      |(refine bV rfl 28 _ _ rfl wo.heap.size (trC xk xn xt (.slice xa xl xc) (.slice xd xm xe)) rfl rfl 28 (trC 0 0 ⟨#[]⟩ (.slice none 0 0) (.slice none 0 0)) (aF _ _) bO rfl uAy ?_;intro w8 h8 k8;have hb8:Below wo.heap.size wo w8:=(Below.newly' _ _).trans (k8.below (aE _));have HX8:=aJ h8;have HB8:=aJ hb8;clear hb8 h8 k8))
    have HXK:Hid (∀V,Below w8.heap.size w8 V->V.heap[wo.heap.size]? =some (.cells (trC xk xn xt (.slice xa xl xc) (.slice xd xm xe)) 28 (0,0))):=fun V hb=>(hb.block _ (Array.getElem?_eq_some_iff.1 HX8.out).1).trans HX8.out
    have HU8:Hid (∀V,Below w8.heap.size w8 V->dC w.heap.size 28 5 uv ds V):=fun V hb=>HUV.out.later (HB8.out.trans (hb.mono HB8.out.size))
    have HFIN:Hid (∀(v':Value) (V wa:World),Below w8.heap.size w8 V->dC w.heap.size 28 5 v' (ds++[(trC xk xn xt (.slice xa xl xc) (.slice xd xm xe))]) wa->V.grownBy wa uv.ownBlock->(v'.ownBlock=uv.ownBlock\/∃g',v'.ownBlock=some g'/\V.heap.size<=g')->lT P y=P++[y]->
        dC w.heap.size 28 5 v' (ds++[(trC xk xn xt (.slice xa xl xc) (.slice xd xm xe))]) wa/\pD w (((fT l).take (j+1)).foldl lT []) (ds++[(trC xk xn xt (.slice xa xl xc) (.slice xd xm xe))])/\dC (w.heap.size+1) 28 5 (.slice (some ⟨g,o,none⟩) N sc) css wa/\(∀k,(Value.slice (some ⟨g,o,none⟩) N sc).ownBlock=some k->v'.ownBlock≠some k)/\Below w.heap.size w wa):=fun v' V wa hb r1 r2 r3 hadd=>by
      have hbo:=HB8.out.trans (hb.mono HB8.out.size);have hsv:=HSV2.out.later hbo;have huv:=HUV.out.later hbo;have hbw:=HBR.out.trans (hbo.mono HBR.out.size);have hlt2:∀k,(Value.slice (some ⟨g,o,none⟩) N sc).ownBlock=some k->k<V.heap.size:=fun k hk=>by
        rcases hsv.1.2 with⟨e,_⟩|⟨g',cap,cur,e,_,h4,_⟩
        ·cases e
        ·rw[e]at hk
         have:g'=k:=by simpa[Value.ownBlock]using hk
         subst this;exact(Array.getElem?_eq_some_iff.1 h4).1
      refine⟨r1,?_,hsv.grown r2 ?_,fun k hk he=> ?_,hbw.trans (huv.below' r2 (aE _) hbw.size)⟩
      ·rw[HNX.out,hadd]
       exact HUT.out.snoc HYT.out
      ·cases hq:(Value.slice (some ⟨g,o,none⟩) N sc).ownBlock with
       |none=>exact .inl rfl
       |some k=>exact .inr fun e'=>HNE.out k hq e'.symm
      ·rcases r3 with r3|⟨g',r3,r4⟩
       ·exact HNE.out k hk (r3▸he)
       ·rw[r3]at he
        have:=hlt2 k hk;have:g'=k:=aN he;omega
    have HSKIP:Hid (∀V,Below w8.heap.size w8 V->lT P y=P->dC w.heap.size 28 5 uv ds V/\pD w (((fT l).take (j+1)).foldl lT []) ds/\dC (w.heap.size+1) 28 5 (.slice (some ⟨g,o,none⟩) N sc) css V/\(∀k,(Value.slice (some ⟨g,o,none⟩) N sc).ownBlock=some k->uv.ownBlock≠some k)/\Below w.heap.size w V):=fun V hb hadd=>by
      have hbo:=HB8.out.trans (hb.mono HB8.out.size);exact⟨HUV.out.later hbo,by rw[HNX.out,hadd];exact HUT.out,HSV2.out.later hbo,HNE.out,HBR.out.trans (hbo.mono HBR.out.size)⟩
    have HLN:Hid (ds.length<=20000):=by
      have h1:P.length=ds.length:=HUT.out.1;have h2:P.length<=j:=by rw[hP];exact aLU _ j
      have:=HNL.out.2;exact aJ uAu
    have HPB:Hid (∀x∈P,dW x):=fun x hx=>HLB.out x (by rw[hP]at hx;exact dI ((aGh _ _ _ hx).resolve_left uBu))
    clear hP;have HW:Hid (Below w8.heap.size w8 w8.drew):=bE w8;cases ds with
    |nil=>
     obtain⟨ua,uc,rfl⟩:=HUV.out.own.shape';have hz:List.length ([]:List (Array Value))=0:=rfl;rw[hz];refine bL (S:=(fun V=>V.heap[wo.heap.size]? =some (.cells (trC xk xn xt (.slice xa xl xc) (.slice xd xm xe)) 28 (0,0)))) [] hO (by exact HXK.out _ HW.out) (fun hHeld=> ?_);refine aI (i:=0) (oi:=⟨some 14,_,_,_,_,_⟩) (v:=?vg1_0) rfl hO hO hO hO (fun _ _ _ h=>h) (Or.inl ⟨by rfl,?hg1_0⟩) uAx ?rg1_0
     case hg1_0=>(intro w hSw;(try dsimp only at hSw);first|(go_simp;done)|(go_simp;with_reducible rfl))
     (try simp only[Act.put,aA,aB,aC]);refine aI (i:=1) (oi:=⟨some 15,_,_,_,_,_⟩) (v:=?vg1_1) rfl hO hO hO hO (fun _ _ _ h=>h) (Or.inl ⟨by rfl,?hg1_1⟩) uAx ?rg1_1
     case hg1_1=>(intro w hSw;(try dsimp only at hSw);first|(go_simp;done)|(go_simp;with_reducible rfl))
     (try simp only[Act.put,aA,aB,aC]);refine aI (i:=2) (oi:=⟨some 16,_,_,_,_,_⟩) (v:=?vg1_2) rfl hO hO hO hO (fun _ _ _ h=>h) (Or.inl ⟨by rfl,?hg1_2⟩) uAx ?rg1_2
     case hg1_2=>(intro w hSw;(try dsimp only at hSw);first|(go_simp;done)|(go_simp;with_reducible rfl))
     (try simp only[Act.put,aA,aB,aC]);refine aI (i:=3) (oi:=⟨some 17,_,_,_,_,_⟩) (v:=?vg1_3) rfl hO hO hO hO (fun _ _ _ h=>h) (Or.inl ⟨by rfl,?hg1_3⟩) uAx ?rg1_3
     case hg1_3=>(intro w hSw;(try dsimp only at hSw);first|(go_simp;done)|(go_simp;with_reducible rfl))
     (try simp only[Act.put,aA,aB,aC]);refine aI (i:=4) (oi:=⟨some 18,_,_,_,_,_⟩) (v:=undef) rfl hO hO hO hO (fun _ _ _ h=>h) (Or.inr ⟨by rfl,rfl⟩) uAx ?_;(try simp only[Act.put,aA,aB,aC]);refine aI (i:=5) (oi:=⟨some 19,_,_,_,_,_⟩) (v:=undef) rfl hO hO hO hO (fun _ _ _ h=>h) (Or.inr ⟨by rfl,rfl⟩) uAx ?_;(try simp only[Act.put,aA,aB,aC]);refine aI (i:=6) (oi:=⟨some 20,_,_,_,_,_⟩) (v:=undef) rfl hO hO hO hO (fun _ _ _ h=>h) (Or.inr ⟨by rfl,rfl⟩) uAx ?_;(try simp only[Act.put,aA,aB,aC]);refine aI (i:=7) (oi:=⟨some 21,_,_,_,_,_⟩) (v:=undef) rfl hO hO hO hO (fun _ _ _ h=>h) (Or.inr ⟨by rfl,rfl⟩) uAx ?_;(try simp only[Act.put,aA,aB,aC]);refine aI (i:=8) (oi:=⟨some 22,_,_,_,_,_⟩) (v:=undef) rfl hO hO hO hO (fun _ _ _ h=>h) (Or.inr ⟨by rfl,rfl⟩) uAx ?_;(try simp only[Act.put,aA,aB,aC]);refine aI (i:=9) (oi:=⟨some 23,_,_,_,_,_⟩) (v:=undef) rfl hO hO hO hO (fun _ _ _ h=>h) (Or.inr ⟨by rfl,rfl⟩) uAx ?_;(try simp only[Act.put,aA,aB,aC]);refine aI (i:=10) (oi:=⟨some 24,_,_,_,_,_⟩) (v:=undef) rfl hO hO hO hO (fun _ _ _ h=>h) (Or.inr ⟨by rfl,rfl⟩) uAx ?_
     (try simp only[Act.put,aA,aB,aC]);refine aI (i:=11) (oi:=⟨some 25,_,_,_,_,_⟩) (v:=undef) rfl hO hO hO hO (fun _ _ _ h=>h) (Or.inr ⟨by rfl,rfl⟩) uAx ?_;(try simp only[Act.put,aA,aB,aC]);refine aI (i:=12) (oi:=⟨some 26,_,_,_,_,_⟩) (v:=undef) rfl hO hO hO hO (fun _ _ _ h=>h) (Or.inr ⟨by rfl,rfl⟩) uAx ?_;(try simp only[Act.put,aA,aB,aC]);refine aI (i:=13) (oi:=⟨some 27,_,_,_,_,_⟩) (v:=?vg1_13) rfl hO hO hO hO (fun _ _ _ h=>h) (Or.inl ⟨by rfl,?hg1_13⟩) uAx ?rg1_13
     case hg1_13=>(intro w hSw;(try dsimp only at hSw);first|(go_simp;done)|(go_simp;with_reducible rfl))
     (try simp only[Act.put,aA,aB,aC]);refine bK hO ?_ _;have hadd:lT P y=P++[y]:=if_pos (.inl (aT HUT.out.1));have HADD:=aJ hadd;clear hadd hHeld;go_wp2_with (first
       |(refine bR uAz 28 _ rfl wo.heap.size rfl 28 _ _ _ (HXK.out _ HW.out) Tryz.underlying28 rfl bO ?_)
       |(refine nK rfl 26 28 _ rfl (trC xk xn xt (.slice xa xl xc) (.slice xd xm xe)) 5 (.agg (trC 0 0 ⟨#[]⟩ (.slice none 0 0) (.slice none 0 0))) rfl rfl uAv uAv Tryz.underlying26 lH ?_;intro wl hl hbl hzl;have HL:=aJ hl;have HWL:=aJ (HW.out.trans (hbl.mono HW.out.size));clear hl hbl hzl)
       |(refine cW rfl ?_;intro _ hK;refine oR 26 28 _ _ rfl (by_:=80) (z:=.agg (trC 0 0 ⟨#[]⟩ (.slice none 0 0) (.slice none 0 0))) rfl (HU8.out wl HWL.out) _ _ rfl HL.out rfl uAy Tryz.underlying26 gQ rfl uAv uPy uAv ?_;intro v' wa r1 r2 r3;refine hK _ _ ?_;have HE:=aJ (HFIN.out v' wl wa HWL.out r1 r2 r3 HADD.out);clear hK r1 r2 r3))
     have hfin:=HE.out;have HJN2:=aJ hltN;go_roundw
     case rel=>exact⟨j+1,_,_,by omega,by go_num,rfl,hfin.1,hfin.2.1,hfin.2.2.1,hfin.2.2.2.1,hfin.2.2.2.2⟩
     case measure=>simp[intOf];omega
    |cons d0 dr=>
     obtain⟨q,hq⟩:∃q,q=dr.length:=⟨_,rfl⟩
     have hm:(d0::dr).length=q+1:=by rw[hq];rfl
     have hpl:P.length=q+1:=by rw[<-hm];exact HUT.out.1
     have hck:=tL HUV.out.own.lsT;rw[hm]at hck;obtain⟨gu,ou,cu,rfl,_,_,_,h⟩:=hck.pos uAu;have hqd:q<(d0::dr).length:=by omega
     have hqp:q<P.length:=by omega
     have hzt:=HUT.out.2 q hqp hqd;obtain⟨zk,zn,zt,za,zl,zc,zd,zm,ze,e⟩:=hzt.cells;have hrz:wo.rangeAt gu (ou+q*5) (d0::dr)[q].toList:=fun i u hu=>by
       have h2:=h (q*5+i) u (aBW 5 (d0::dr) q i u HUV.out.2.2 hqd hu);rw[<-tZ]at h2;exact h2
     rw[e]at hzt hrz;obtain⟨z,hz⟩:∃z,z=P[q]:=⟨_,rfl⟩
     rw[<-hz]at hzt;have hzb:dW z:=by rw[hz];exact HPB.out _ (aO hqp)
     obtain⟨od,hod⟩:∃n,n=eC z y:=⟨_,rfl⟩
     have hlast:P.getLastD iE=z:=by
       have hne:P≠[]:=fun e=>by rw[e]at hpl;cases hpl
       rw[xX,List.getLast?_eq_some_getLast hne,tB,aAE hne,hz];simp only[hpl,Nat.add_sub_cancel]
     have HADD0:Hid (od=0->lT P y=P):=fun h0=>if_neg (by
       rintro(h|h)
       ·rw[h]at hpl;cases hpl
       ·rw[hlast,<-hod]at h;exact h h0)
     have HADD1:Hid (od≠0->lT P y=P++[y]):=fun h0=>if_pos (.inr (by rw[hlast,<-hod];exact h0))
     have HRZ:=aJ (fun V (hb:Below w8.heap.size w8 V)=>dB hrz (HB8.out.trans (hb.mono HB8.out.size)));have HOR:Hid (∀W,Below w8.heap.size w8 W->Calls Tryz.prog 13 #[.agg (trC zk zn zt (.slice za zl zc) (.slice zd zm ze)),.agg (trC xk xn xt (.slice xa xl xc) (.slice xd xm xe))] W fun e w'=>e=.returned (.int .i64 od)/\Below W.heap.size W w'):=fun W hb=>by
       have hbo:=HB8.out.trans (hb.mono HB8.out.size);have hbw:=HBR.out.trans (hbo.mono HBR.out.size);rw[hod];exact xK _ _ _ _ W (hzt.later hbw) (HYT.out.later hbw) hzb HYB.out
     have HKS:Hid (∀V,Below w8.heap.size w8 V->V.heap[wo.heap.size]? =some (.cells (trC xk xn xt (.slice xa xl xc) (.slice xd xm xe)) 28 (0,0))/\V.rangeAt gu (ou+q*5) (trC zk zn zt (.slice za zl zc) (.slice zd zm ze)).toList):=fun V hb=>⟨HXK.out V hb,HRZ.out V hb⟩
     have HQN:Hid (q<=20000):=by have:=HLN.out;exact aJ uAu
     have hq20:(q:Int)<=20000:=by have:=HQN.out;omega
     have hq0:(0:Int)<=(q:Int):=by omega
     have hqq:(q:Int)<(q:Int)+1:=by omega
     have hwq:IntKind.i64.wrap (q:Int)=(q:Int):=by rw[gE];omega
     have hqe:((q:Int)+1==0)=false:=bJ.2 uAu;have hqn:¬((q:Int)+1=0):=by omega
     clear hq hpl hck h hqd hqp hzt e hrz hz hzb hod hlast HRZ;by_cases h0:od=0
     have HADD:=aJ (HADD0.out h0)
     subst h0;clear HADD0 HADD1;refine bL (S:=(fun V=>V.heap[wo.heap.size]? =some (.cells (trC xk xn xt (.slice xa xl xc) (.slice xd xm xe)) 28 (0,0))/\V.rangeAt gu (ou+q*5) (trC zk zn zt (.slice za zl zc) (.slice zd zm ze)).toList)) [] hO uAw (fun hHeld=> ?_);refine aI (i:=0) (oi:=⟨some 14,_,_,_,_,_⟩) (v:=?vg2_0) rfl hO hO hO hO (fun _ _ _ h=>h) (Or.inl ⟨by rfl,?hg2_0⟩) uAx ?rg2_0
     case hg2_0=>(intro w hSw;(try dsimp only at hSw);first|(go_simp;done)|(go_simp;with_reducible rfl))
     (try simp only[Act.put,aA,aB,aC]);refine aI (i:=1) (oi:=⟨some 15,_,_,_,_,_⟩) (v:=?vg2_1) rfl hO hO hO hO (fun _ _ _ h=>h) (Or.inl ⟨by rfl,?hg2_1⟩) uAx ?rg2_1
     case hg2_1=>(intro w hSw;(try dsimp only at hSw);first|(go_simp;done)|(go_simp;with_reducible rfl))
     (try simp only[Act.put,aA,aB,aC]);refine aI (i:=2) (oi:=⟨some 16,_,_,_,_,_⟩) (v:=(.bool false)) rfl hO hO hO hO (fun _ _ _ h=>h) (Or.inl ⟨by rfl,?hg2_2⟩) uAx ?rg2_2
     case hg2_2=>(intro w hSw;(try dsimp only at hSw);first|(go_simp;done)|(go_simp;simp[hqe];done))
     (try simp only[Act.put,aA,aB,aC]);refine aI (i:=3) (oi:=⟨some 17,_,_,_,_,_⟩) (v:=?vg2_3) rfl hO hO hO hO (fun _ _ _ h=>h) (Or.inl ⟨by rfl,?hg2_3⟩) uAx ?rg2_3
     case hg2_3=>(intro w hSw;(try dsimp only at hSw);first|(go_simp;done)|(go_simp;with_reducible rfl))
     (try simp only[Act.put,aA,aB,aC]);refine aI (i:=4) (oi:=⟨some 18,_,_,_,_,_⟩) (v:=?vg2_4) rfl hO hO hO hO (fun _ _ _ h=>h) (Or.inl ⟨by rfl,?hg2_4⟩) uAx ?rg2_4
     case hg2_4=>(intro w hSw;(try dsimp only at hSw);first|(go_simp;done)|(go_simp;with_reducible rfl))
     (try simp only[Act.put,aA,aB,aC]);refine aI (i:=5) (oi:=⟨some 19,_,_,_,_,_⟩) (v:=?vg2_5) rfl hO hO hO hO (fun _ _ _ h=>h) (Or.inl ⟨by rfl,?hg2_5⟩) uAx ?rg2_5
     case hg2_5=>(intro w hSw;(try dsimp only at hSw);first|(go_simp;done)|(go_simp;with_reducible rfl))
     (try simp only[Act.put,aA,aB,aC]);refine aI (i:=6) (oi:=⟨some 20,_,_,_,_,_⟩) (v:=?vg2_6) rfl hO hO hO hO (fun _ _ _ h=>h) (Or.inl ⟨by rfl,?hg2_6⟩) uAx ?rg2_6
     case hg2_6=>(intro w hSw;(try dsimp only at hSw);first|(go_simp;done)|(go_simp;with_reducible rfl))
     (try simp only[Act.put,aA,aB,aC]);refine aI (i:=7) (oi:=⟨some 21,_,_,_,_,_⟩) (v:=(.int .i64 (q:Int))) rfl hO hO hO hO (fun _ _ _ h=>h) (Or.inl ⟨by rfl,?hg2_7⟩) uAx ?rg2_7
     case hg2_7=>(intro w hSw;(try dsimp only at hSw);first|(go_simp;done)|(go_simp;rw[hwq];done)|(go_simp;simp[hwq]))
     (try simp only[Act.put,aA,aB,aC]);refine aI (i:=8) (oi:=⟨some 22,_,_,_,_,_⟩) (v:=?vg2_8) rfl hO hO hO hO (fun _ _ _ h=>h) (Or.inl ⟨by rfl,?hg2_8⟩) uAx ?rg2_8
     case hg2_8=>(intro w hSw;(try dsimp only at hSw);first|(go_simp;done)|(go_simp;with_reducible rfl))
     (try simp only[Act.put,aA,aB,aC]);refine aI (i:=9) (oi:=⟨some 23,_,_,_,_,_⟩) (v:=_) rfl hO hO hO hO (fun _ _ _ h=>h) (bT uAz 28 _ rfl gu (ou+q*5) rfl (trC zk zn zt (.slice za zl zc) (.slice zd zm ze)) _ (fun w hw=>hw.2) Tryz.underlying28 rfl uCy) uAx ?_;(try simp only[Act.put,aA,aB,aC]);refine aI (i:=10) (oi:=⟨some 24,_,_,_,_,_⟩) (v:=_) rfl hO hO hO hO (fun _ _ _ h=>h) (aP uAz 28 _ rfl wo.heap.size rfl (trC xk xn xt (.slice xa xl xc) (.slice xd xm xe)) 28 (0,0) _ (fun w hw=>hw.1) Tryz.underlying28 rfl uCy) uAx ?_;(try simp only[Act.put,aA,aB,aC]);refine jE (i:=11) (o:=⟨some 25,_,_,_,_,_⟩) hO rfl (fun K hK=> ?_);go_simp;go_at_call 13;(with_reducible refine(HOR.out _ uBy).mono ?_);rintro r wt ⟨rfl,hb⟩;replace HW:=aJ (HW.out.trans (hb.mono HW.out.size));clear hb;dsimp only;refine hK.out _ _ uAw (fun hHeld=> ?_);clear hK K;(try simp only[Act.put,aA,aB,aC]);refine aI (i:=12) (oi:=⟨some 26,_,_,_,_,_⟩) (v:=?vg2_12) rfl hO hO hO hO (fun _ _ _ h=>h) (Or.inl ⟨by rfl,?hg2_12⟩) uAx ?rg2_12
     case hg2_12=>(intro w hSw;(try dsimp only at hSw);first|(go_simp;done)|(go_simp;with_reducible rfl))
     (try simp only[Act.put,aA,aB,aC]);refine aI (i:=13) (oi:=⟨some 27,_,_,_,_,_⟩) (v:=?vg2_13) rfl hO hO hO hO (fun _ _ _ h=>h) (Or.inl ⟨by rfl,?hg2_13⟩) uAx ?rg2_13
     case hg2_13=>(intro w hSw;(try dsimp only at hSw);first|(go_simp;done)|(go_simp;with_reducible rfl))
     (try simp only[Act.put,aA,aB,aC]);refine bK hO ?_ _;clear hHeld;go_wp2_with fail
     have hfin:=HSKIP.out _ HW.out HADD.out
     rotate_left
     have HADD:=aJ (HADD1.out h0)
     have hnz:(od==0)=false:=bJ.2 h0;have hnb:(od !=0)=true:=pZ.2 h0;clear HADD0 HADD1 h0;refine bL (S:=(fun V=>V.heap[wo.heap.size]? =some (.cells (trC xk xn xt (.slice xa xl xc) (.slice xd xm xe)) 28 (0,0))/\V.rangeAt gu (ou+q*5) (trC zk zn zt (.slice za zl zc) (.slice zd zm ze)).toList)) [] hO uAw (fun hHeld=> ?_);refine aI (i:=0) (oi:=⟨some 14,_,_,_,_,_⟩) (v:=?vg3_0) rfl hO hO hO hO (fun _ _ _ h=>h) (Or.inl ⟨by rfl,?hg3_0⟩) uAx ?rg3_0
     case hg3_0=>(intro w hSw;(try dsimp only at hSw);first|(go_simp;done)|(go_simp;with_reducible rfl))
     (try simp only[Act.put,aA,aB,aC]);refine aI (i:=1) (oi:=⟨some 15,_,_,_,_,_⟩) (v:=?vg3_1) rfl hO hO hO hO (fun _ _ _ h=>h) (Or.inl ⟨by rfl,?hg3_1⟩) uAx ?rg3_1
     case hg3_1=>(intro w hSw;(try dsimp only at hSw);first|(go_simp;done)|(go_simp;with_reducible rfl))
     (try simp only[Act.put,aA,aB,aC]);refine aI (i:=2) (oi:=⟨some 16,_,_,_,_,_⟩) (v:=(.bool false)) rfl hO hO hO hO (fun _ _ _ h=>h) (Or.inl ⟨by rfl,?hg3_2⟩) uAx ?rg3_2
     case hg3_2=>(intro w hSw;(try dsimp only at hSw);first|(go_simp;done)|(go_simp;simp[hqe];done))
     (try simp only[Act.put,aA,aB,aC]);refine aI (i:=3) (oi:=⟨some 17,_,_,_,_,_⟩) (v:=?vg3_3) rfl hO hO hO hO (fun _ _ _ h=>h) (Or.inl ⟨by rfl,?hg3_3⟩) uAx ?rg3_3
     case hg3_3=>(intro w hSw;(try dsimp only at hSw);first|(go_simp;done)|(go_simp;with_reducible rfl))
     (try simp only[Act.put,aA,aB,aC]);refine aI (i:=4) (oi:=⟨some 18,_,_,_,_,_⟩) (v:=?vg3_4) rfl hO hO hO hO (fun _ _ _ h=>h) (Or.inl ⟨by rfl,?hg3_4⟩) uAx ?rg3_4
     case hg3_4=>(intro w hSw;(try dsimp only at hSw);first|(go_simp;done)|(go_simp;with_reducible rfl))
     (try simp only[Act.put,aA,aB,aC]);refine aI (i:=5) (oi:=⟨some 19,_,_,_,_,_⟩) (v:=?vg3_5) rfl hO hO hO hO (fun _ _ _ h=>h) (Or.inl ⟨by rfl,?hg3_5⟩) uAx ?rg3_5
     case hg3_5=>(intro w hSw;(try dsimp only at hSw);first|(go_simp;done)|(go_simp;with_reducible rfl))
     (try simp only[Act.put,aA,aB,aC]);refine aI (i:=6) (oi:=⟨some 20,_,_,_,_,_⟩) (v:=?vg3_6) rfl hO hO hO hO (fun _ _ _ h=>h) (Or.inl ⟨by rfl,?hg3_6⟩) uAx ?rg3_6
     case hg3_6=>(intro w hSw;(try dsimp only at hSw);first|(go_simp;done)|(go_simp;with_reducible rfl))
     (try simp only[Act.put,aA,aB,aC]);refine aI (i:=7) (oi:=⟨some 21,_,_,_,_,_⟩) (v:=(.int .i64 (q:Int))) rfl hO hO hO hO (fun _ _ _ h=>h) (Or.inl ⟨by rfl,?hg3_7⟩) uAx ?rg3_7
     case hg3_7=>(intro w hSw;(try dsimp only at hSw);first|(go_simp;done)|(go_simp;rw[hwq];done)|(go_simp;simp[hwq]))
     (try simp only[Act.put,aA,aB,aC]);refine aI (i:=8) (oi:=⟨some 22,_,_,_,_,_⟩) (v:=?vg3_8) rfl hO hO hO hO (fun _ _ _ h=>h) (Or.inl ⟨by rfl,?hg3_8⟩) uAx ?rg3_8
     case hg3_8=>(intro w hSw;(try dsimp only at hSw);first|(go_simp;done)|(go_simp;with_reducible rfl))
     (try simp only[Act.put,aA,aB,aC]);refine aI (i:=9) (oi:=⟨some 23,_,_,_,_,_⟩) (v:=_) rfl hO hO hO hO (fun _ _ _ h=>h) (bT uAz 28 _ rfl gu (ou+q*5) rfl (trC zk zn zt (.slice za zl zc) (.slice zd zm ze)) _ (fun w hw=>hw.2) Tryz.underlying28 rfl uCy) uAx ?_;(try simp only[Act.put,aA,aB,aC]);refine aI (i:=10) (oi:=⟨some 24,_,_,_,_,_⟩) (v:=_) rfl hO hO hO hO (fun _ _ _ h=>h) (aP uAz 28 _ rfl wo.heap.size rfl (trC xk xn xt (.slice xa xl xc) (.slice xd xm xe)) 28 (0,0) _ (fun w hw=>hw.1) Tryz.underlying28 rfl uCy) uAx ?_;(try simp only[Act.put,aA,aB,aC]);refine jE (i:=11) (o:=⟨some 25,_,_,_,_,_⟩) hO rfl (fun K hK=> ?_);go_simp;go_at_call 13;(with_reducible refine(HOR.out _ uBy).mono ?_);rintro r wt ⟨rfl,hb⟩;replace HW:=aJ (HW.out.trans (hb.mono HW.out.size));clear hb;dsimp only;refine hK.out _ _ uAw (fun hHeld=> ?_);clear hK K;(try simp only[Act.put,aA,aB,aC]);refine aI (i:=12) (oi:=⟨some 26,_,_,_,_,_⟩) (v:=(.bool true)) rfl hO hO hO hO (fun _ _ _ h=>h) (Or.inl ⟨by rfl,?hg3_12⟩) uAx ?rg3_12
     case hg3_12=>(intro w hSw;(try dsimp only at hSw);first|(go_simp;done)|(go_simp;rw[hnb];done)|(go_simp;simp[bne,hnz];done))
     (try simp only[Act.put,aA,aB,aC]);refine aI (i:=13) (oi:=⟨some 27,_,_,_,_,_⟩) (v:=?vg3_13) rfl hO hO hO hO (fun _ _ _ h=>h) (Or.inl ⟨by rfl,?hg3_13⟩) uAx ?rg3_13
     case hg3_13=>(intro w hSw;(try dsimp only at hSw);first|(go_simp;done)|(go_simp;with_reducible rfl))
     (try simp only[Act.put,aA,aB,aC]);refine bK hO ?_ _;clear hHeld hnz hnb;go_wp2_with (first
       |(refine bR uAz 28 _ rfl wo.heap.size rfl 28 _ _ _ (HXK.out _ HW.out) Tryz.underlying28 rfl bO ?_)
       |(refine nK rfl 26 28 _ rfl (trC xk xn xt (.slice xa xl xc) (.slice xd xm xe)) 5 (.agg (trC 0 0 ⟨#[]⟩ (.slice none 0 0) (.slice none 0 0))) rfl rfl uAv uAv Tryz.underlying26 lH ?_;intro wl hl hbl hzl;have HL:=aJ hl;have HWL:=aJ (HW.out.trans (hbl.mono HW.out.size));clear hl hbl hzl)
       |(refine cW rfl ?_;intro _ hK;refine oR 26 28 _ _ rfl (by_:=80) (z:=.agg (trC 0 0 ⟨#[]⟩ (.slice none 0 0) (.slice none 0 0))) rfl (HU8.out wl HWL.out) _ _ rfl HL.out rfl uAy Tryz.underlying26 gQ rfl uAv uPy uAv ?_;intro v' wa r1 r2 r3;refine hK _ _ ?_;have HE:=aJ (HFIN.out v' wl wa HWL.out r1 r2 r3 HADD.out);clear hK r1 r2 r3))
     have hfin:=HE.out
     all_goals
      have HJN2:=aJ hltN;go_roundw
      case rel=>exact⟨j+1,_,_,by omega,by go_num,rfl,hfin.1,hfin.2.1,hfin.2.2.1,hfin.2.2.2.1,hfin.2.2.2.2⟩
      case measure=>simp[intOf];omega
end Go.Proofs.YtengibnpebfblaaGreatDoor
set_option maxRecDepth 1000000
set_option maxHeartbeats 8000000
set_option linter.unusedSimpArgs false
namespace Go.Proofs.YtengibnpebfblaaGreatDoor
open Go.RowKit
theorem yQ (a b:Tr) (x y:Cel) (w:World) (hv:VAt (fun _=>True) w a x) (hu:VAt (fun _=>True) w b y) (ha:dW a) (hbv:dW b) (hT:fW w):Calls Tryz.prog 14 #[.agg (aX x),.agg (aX y)] w fun e w'=>e=.returned (.int .i64 (eC a b))/\Below w.heap.size w w':=by
 obtain⟨w1,hw1⟩:∃w1,(w.alloc (.cells (aX x) 35)).alloc (.cells (aX y) 35)=w1:=⟨_,rfl⟩
 obtain⟨hb1,hx1,hx2,hs1⟩:=eR hw1;obtain⟨ka,hka⟩:∃k,k=kB a:=⟨_,rfl⟩
 obtain⟨kz,hkz⟩:∃k,k=kB b:=⟨_,rfl⟩
 obtain⟨n,hn⟩:∃n,n=eC a b:=⟨_,rfl⟩
 have HKA:Hid (∀W,Below w1.heap.size w1 W->Calls Tryz.prog 41 #[.agg (aX x)] W fun e w'=>e=.returned (.string ka)/\Below W.heap.size W w'):=fun W hb=>by rw[hka];exact xD W a x ha ((hv.later hb1).later hb) ((hT.below hb1).below hb)
 have HKB:Hid (∀W,Below w1.heap.size w1 W->Calls Tryz.prog 41 #[.agg (aX y)] W fun e w'=>e=.returned (.string kz)/\Below W.heap.size W w'):=fun W hb=>by rw[hkz];exact xD W b y hbv ((hu.later hb1).later hb) ((hT.below hb1).below hb)
 have HOR:Hid (∀W,Calls Tryz.prog 40 #[.string ka,.string kz] W fun e w'=>e=.returned (.int .i64 n)/\W=w'):=fun W=>by
  have h:=yM ka kz W;rw[hka,hkz,oK,oK]at h;rw[hn,hka,hkz];exact h
 rw[<-hn];have HB1:=iH hb1;have HKS:Hid (∀V,Below w1.heap.size w1 V->V.heap[w.heap.size]? =some (.cells (aX x) 35 (0,0))/\V.heap[w.heap.size+1]? =some (.cells (aX y) 35 (0,0))):=fun V hb=>⟨kW hb hx1,kW hb hx2⟩
 have HW:Hid (Below w1.heap.size w1 w1.drew):=bE w1;clear hka hkz hn hb1 hx1 hx2 hs1 hv hu ha hbv hT;go_enter Tryz.func14,Tryz.ntmps14;go_upto_region 1 with fail
 clear hw1;refine bL (S:=(fun V=>V.heap[w.heap.size]? =some (.cells (aX x) 35 (0,0))/\V.heap[w.heap.size+1]? =some (.cells (aX y) 35 (0,0)))) [] hO uAw (fun hHeld=> ?_);refine tyL 0 5 (hy:=aP uAz 35 _ rfl w.heap.size rfl (aX x) 35 (0,0) _ (fun w hw=>hw.1) Tryz.underlying35 rfl uFz) (h:=?_);refine tyL 2 7 (hy:=aP uAz 35 _ rfl (w.heap.size+1) rfl (aX y) 35 (0,0) _ (fun w hw=>hw.2) Tryz.underlying35 rfl uFz) (h:=?_);(try simp only[pq]);refine tkO 1 (some 6) (h:=fun K hK=> ?_);go_simp;go_at_call 41;(with_reducible refine(HKA.out _ uBy).mono ?_);rintro r wa ⟨rfl,hb⟩;replace HW:=iH (tW HW.out hb);clear hb;dsimp only;refine hK.out _ _ uAw (fun hHeld=> ?_);clear hK K;(try simp only[pq]);refine tkO 3 (some 8) (h:=fun K hK=> ?_);go_simp;go_at_call 41;(with_reducible refine(HKB.out _ uBy).mono ?_);rintro r wb ⟨rfl,hb⟩;replace HW:=iH (tW HW.out hb);clear hb;dsimp only;refine hK.out _ _ uAw (fun hHeld=> ?_);clear hK K;(try simp only[pq]);refine tkO 4 (some 9) (h:=fun K hK=> ?_);go_simp;go_at_call 40;(with_reducible refine(HOR.out _).mono ?_);rintro r wc ⟨rfl,rfl⟩
 skip
 exact Ac9
theorem aE2 (a b:Tr) (x y:Cel) (w:World) (hv:VAt (fun _=>True) w a x) (hu:VAt (fun _=>True) w b y) (ha:dW a) (hbv:dW b) (hT:fW w):Calls Tryz.prog 15 #[.agg (aX x),.agg (aX y)] w fun e w'=>e=.returned (.bool (eC a b==0))/\Below w.heap.size w w':=by
 obtain⟨w1,hw1⟩:∃w1,(w.alloc (.cells (aX x) 35)).alloc (.cells (aX y) 35)=w1:=⟨_,rfl⟩
 obtain⟨hb1,hx1,hx2,hs1⟩:=eR hw1;have HOR:=iH (fun W (hb:Below w1.heap.size w1 W)=>yQ a b x y W ((hv.later hb1).later hb) ((hu.later hb1).later hb) ha hbv ((hT.below hb1).below hb));have HB1:=iH hb1;have HX1:=iH hx1;have HX2:=iH hx2;have HW:Hid (Below w1.heap.size w1 w1):=aY _ _;clear hb1 hx1 hx2 hs1 hv hu ha hbv hT;go_enter Tryz.func15,Tryz.ntmps15;go_upto_region 1 with fail
 clear hw1;go_wp2_with (first
  |(refine bR rfl 35 _ rfl w.heap.size rfl 35 _ _ _ HX1.out Tryz.underlying35 rfl aR ?_)
  |(refine bR rfl 35 _ rfl (w.heap.size+1) rfl 35 _ _ _ HX2.out Tryz.underlying35 rfl aR ?_)
  |(go_at_call 14;(with_reducible refine(HOR.out _ HW.out).mono ?_);rintro r V ⟨rfl,hb⟩;replace HW:=iH (tW HW.out hb);clear hb))
 have hb:=tW HB1.out HW.out;go_ret;exact⟨rfl,hb⟩
theorem od_Hash (seed:Nat) (a:Tr) (x:Cel) (w:World) (hs:seed<18446744073709551616) (hv:VAt (fun _=>True) w a x) (ha:dW a) (hT:fW w):Calls Tryz.prog 16 #[.int .u64 (seed:Int),.agg (aX x)] w fun e w'=>e=.returned (.int .u64 (aAJ seed (dG a):Nat))/\Below w.heap.size w w':=by
 obtain⟨w1,hw1⟩:∃w1,w.alloc (.cells (aX x) 35)=w1:=⟨_,rfl⟩
 obtain⟨hb1,hx1,hs1⟩:=eA hw1;obtain⟨ka,hka⟩:∃k,k=kB a:=⟨_,rfl⟩
 obtain⟨n,hn⟩:∃n,n=aAJ seed (dG a):=⟨_,rfl⟩
 have HKA:Hid (∀W,Below w1.heap.size w1 W->Calls Tryz.prog 41 #[.agg (aX x)] W fun e w'=>e=.returned (.string ka)/\Below W.heap.size W w'):=fun W hb=>by rw[hka];exact xD W a x ha ((hv.later hb1).later hb) ((hT.below hb1).below hb)
 have HTX:Hid (∀W,Calls Tryz.prog 42 #[.int .u64 (seed:Int),.string ka] W fun e w'=>e=.returned (.int .u64 (n:Nat))/\W=w'):=fun W=>by
  have h:=aFz seed ka hs uLu W;rw[hka,oK]at h;rw[hn,hka];exact h
 rw[<-hn];have HB1:=iH hb1;have HX1:=iH hx1;have HW:Hid (Below w1.heap.size w1 w1):=aY _ _;clear hka hn hb1 hx1 hs1 hv ha hT;go_enter Tryz.func16,Tryz.ntmps16;go_upto_region 1 with fail
 clear hw1;go_wp2_with (first
  |(refine bR rfl 35 _ rfl w.heap.size rfl 35 _ _ _ HX1.out Tryz.underlying35 rfl aR ?_)
  |(go_at_call 41;(with_reducible refine(HKA.out _ HW.out).mono ?_);rintro r V ⟨rfl,hb⟩;replace HW:=iH (tW HW.out hb);clear hb)
  |(go_at_call 42;(with_reducible refine(HTX.out _).mono ?_);rintro r V2 ⟨rfl,rfl⟩))
 have hb:=tW HB1.out HW.out;go_ret;exact⟨rfl,hb⟩
end Go.Proofs.YtengibnpebfblaaGreatDoor
