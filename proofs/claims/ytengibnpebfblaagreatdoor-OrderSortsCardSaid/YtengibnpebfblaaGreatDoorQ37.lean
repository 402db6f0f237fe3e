import Derived.Test.YtengibnpebfblaaGreatDoorQ0
import Derived.Test.YtengibnpebfblaaGreatDoorQ32
import Derived.Test.YtengibnpebfblaaGreatDoorQ33
set_option maxRecDepth 1000000
set_option maxHeartbeats 8000000
set_option linter.unusedSimpArgs false
namespace Go.Proofs.YtengibnpebfblaaGreatDoor
open Go.RowKit Go.Shelf
attribute [local go_sem] fK
theorem mY.consU {P:Program} {md:Region.Mode} {ops:Array Oper} {Q:Exit->Act->World->Prop} {S:World->Prop} {U:List Nat} {fuel:Nat} {listed:Array Bool} {a:Act} {w:World} {i:Nat} {o:Oper} {rs:List Nat} (ho:ops[i]? =some o) (hU:U.contains i=true)
  (h:∀K':Act->World->Prop,Shut (∀a w,dX P md ops Q S U fuel (listed.setIfInBounds i true) a w->K' a w)->if Region.wanted o (yielded ops a.tmps)=true then Oper.wp P o a w K' Q else K' (a.put o.dst undef) w)
  (hs:mY P md ops Q S U fuel listed a w rs):mY P md ops Q S U fuel listed a w (i::rs):=fun j hj=>by
 rcases bA.1 hj with rfl|hj
 ·exact aJB ho (fun K' hK=>h K' (fun a w hW=>hK a w ⟨(fun hc=>absurd (hU.symm.trans hc) uAv),hW⟩))
 ·exact hs j hj
theorem kS:(Tryz.prog.info? 28).map (·.size)=some 5:=by kernel_rfl
theorem aIx:(Tryz.prog.info? 25).map (·.size)=some 1:=by kernel_rfl
theorem aCJ:(Tryz.prog.info? 26).map (·.size)=some 1:=by kernel_rfl
theorem lH:(Tryz.prog.info? 28).map (fun i=>(i.size,i.zero))=some (5,some (.agg (trC 0 0 ⟨#[]⟩ (.slice none 0 0) (.slice none 0 0)))):=by kernel_rfl
theorem gQ:(Tryz.prog.info? 28).map (fun i=>(i.zero,i.size,i.bytes))=some (some (.agg (trC 0 0 ⟨#[]⟩ (.slice none 0 0) (.slice none 0 0))),5,80):=by kernel_rfl
abbrev oC (T:TypeId):Prop:=T=9\/T=28
theorem aMg:vD oC:=⟨by decide,by decide,by decide,by decide,by decide⟩
def aEy (a:Tr):Prop:=∀(w:World) (x:Cel),dW a->VAt (fun _=>True) w a x->fW w->
 Calls Tryz.prog 19 #[.agg (aX x)] w fun r w'=>∃c,r=.returned (.agg c)/\c.size=5/\TrS (fun g=>w.heap.size<=g) w' a (.agg c)/\Below w.heap.size w w'
theorem aJP (a:Tr) (ih:∀y∈a.xs,aEy y):aEy a:=by
 intro w x ha hv hT;obtain⟨w1,hw1⟩:∃w1,(w.alloc (.cells (aX x) 35)).alloc (.cells (trC 0 0 ⟨#[]⟩ (.slice none 0 0) (.slice none 0 0)) 28)=w1:=⟨_,rfl⟩
 obtain⟨hb1,hx1,hr1,hs1⟩:=eR hw1;have hv':VAt (fun g=>g<w.heap.size) w a x:=hv.old.weak fun _ h=>h.2
 have hlow:1<w.heap.size:=aM w _ (hT 0 uAv);have HX1:=iH hx1;have HR1:=iH hr1;have HB1:=iH hb1;have HS1:=iH hs1;have HKA:=iH (fun W=>oE W x);rw[hv.k]at HKA;have HCN:Hid (w1.cell? ⟨w.heap.size,1,none⟩=some (.int .i64 a.n)/\w1.cell? ⟨w.heap.size,2,none⟩=some (.string a.t)):=⟨by rw[<-hv.n];exact aK hx1 rfl,by rw[<-hv.t];exact aK hx1 rfl⟩
 have HPA:=iH (fun W=>cY.1 (oO 5 x W));obtain⟨N,hN⟩:∃N,N=a.xs.length:=⟨_,rfl⟩
 have hN6:N<=16383:=by rw[hN];exact ha.len
 clear hx1 hr1 hb1 hs1;refine(cY (n:=5)).1 ?_;refine eW Tryz.func19 rfl trivial ?_ rfl;refine gH.2 ?_;simp only[Tryz.ntmps19,cA,aL,bG,Nat.reduceAdd,Nat.reduceSub,bY,bW,cM,cD,bD,bC];go_upto_region 1 with fail
 clear hw1;obtain⟨wg,hwg⟩:∃wg,wg=w1.drew:=⟨_,rfl⟩
 have HLG:Hid (Below w1.heap.size w1 wg):=by show Below _ _ _;rw[hwg];exact bE w1
 have HW:Hid (Below w1.heap.size w1 wg):=HLG;have HKS:Hid (∀V,Below w1.heap.size w1 V->(V.heap[w.heap.size]? =some (.cells (aX x) 35 (0,0))/\V.cell? ⟨w.heap.size,1,none⟩=some (.int .i64 a.n)/\V.cell? ⟨w.heap.size,2,none⟩=some (.string a.t))):=fun V hV=>⟨kW hV HX1.out,gS HCN.out.1 hV,gS HCN.out.2 hV⟩
 refine wp_region_noPanic ?_;refine bL (S:=(fun V=>V.heap[w.heap.size]? =some (.cells (aX x) 35 (0,0))/\V.cell? ⟨w.heap.size,1,none⟩=some (.int .i64 a.n)/\V.cell? ⟨w.heap.size,2,none⟩=some (.string a.t))) [10] hO (by rw[<-hwg];exact HKS.out _ HLG.out) (fun hHeld=> ?_);rw[<-hwg]at hHeld ⊢;clear hwg;refine tyL 0 6 (hy:=aP uAz 35 _ rfl w.heap.size rfl (aX x) 35 (0,0) _ (fun w hw=>hw.1) Tryz.underlying35 rfl uFz) (h:=?_);refine tkL 2 8 (h:=?_);(try simp only[pq]);refine tkL 3 9 (h:=?_);refine tkL 4 10 (h:=?_);(try simp only[pq]);refine tkL 5 11 (h:=?_);refine tkL 6 12 (h:=?_);(try simp only[pq]);refine tkL 7 13 (h:=?_);(try simp only[pq]);refine kN (rs:=[1,9]) hO uBu (mY.cons (o:=⟨some 7,_,_,_,_,_⟩) rfl (fun K hK=> ?ca) (mY.cons (o:=⟨some 3,_,_,_,_,_⟩) rfl (fun K hK=> ?cb) mY.nil))
 case' ca=>
  go_simp;go_at_call 44;(with_reducible refine((HKA.out _)).mono ?_);rintro r wk ⟨rfl,hb⟩;replace HW:=iH (tW HW.out hb);clear hb;dsimp only;refine hK.out _ _ uAw (fun hHeld=> ?_);clear hK K;(try simp only[pq]);refine tkL 8 14 (h:=?_);(try simp only[pq]);refine tkO 9 (some 3) (h:=fun K hK=> ?_);go_simp;have HZX:Hid ((wk.alloc (.cells (trC 0 0 ⟨#[]⟩ (.slice none 0 0) (.slice none 0 0)) 28)).heap[wk.heap.size]? =some (.cells (trC 0 0 ⟨#[]⟩ (.slice none 0 0) (.slice none 0 0)) 28 (0,0))):=aF _ _;have HGX:Hid (w1.heap.size<=wk.heap.size):=HW.out.size;replace HW:=iH (HW.out.trans ((Below.newly' wk (.cells (trC 0 0 ⟨#[]⟩ (.slice none 0 0) (.slice none 0 0)) 28)).mono HW.out.size));obtain⟨X,hX⟩:∃X,X=wk.heap.size:=⟨_,rfl⟩
  obtain⟨wx,hwx⟩:∃wx,wx=wk.alloc (.cells (trC 0 0 ⟨#[]⟩ (.slice none 0 0) (.slice none 0 0)) 28):=⟨_,rfl⟩
  rw[<-hwx,<-hX]at HZX;rw[<-hX]at HGX;rw[<-hwx]at HW ⊢;rw[<-hX];clear hwx hX;refine hK.out _ _ uAw (fun hHeld=> ?_);clear hK K;(try simp only[pq]);have HZ2:=HZX
 case' cb=>
  go_simp;have HZX:Hid ((wg.alloc (.cells (trC 0 0 ⟨#[]⟩ (.slice none 0 0) (.slice none 0 0)) 28)).heap[wg.heap.size]? =some (.cells (trC 0 0 ⟨#[]⟩ (.slice none 0 0) (.slice none 0 0)) 28 (0,0))):=aF _ _;have HGX:Hid (w1.heap.size<=wg.heap.size):=HW.out.size;replace HW:=iH (HW.out.trans ((Below.newly' wg (.cells (trC 0 0 ⟨#[]⟩ (.slice none 0 0) (.slice none 0 0)) 28)).mono HW.out.size));obtain⟨X,hX⟩:∃X,X=wg.heap.size:=⟨_,rfl⟩
  obtain⟨wx,hwx⟩:∃wx,wx=wg.alloc (.cells (trC 0 0 ⟨#[]⟩ (.slice none 0 0) (.slice none 0 0)) 28):=⟨_,rfl⟩
  rw[<-hwx,<-hX]at HZX;rw[<-hX]at HGX;rw[<-hwx]at HW ⊢;rw[<-hX];clear hwx hX;refine hK.out _ _ uAw (fun hHeld=> ?_);clear hK K;(try simp only[pq]);refine tkO 1 (some 7) (h:=fun K hK=> ?_);go_simp;go_at_call 44;(with_reducible refine((HKA.out _)).mono ?_);rintro r wk ⟨rfl,hb⟩;have HZ2:=iH (kW hb HZX.out);replace HW:=iH (tW HW.out hb);clear hb;dsimp only;refine hK.out _ _ uAw (fun hHeld=> ?_);clear hK K;(try simp only[pq]);refine tkL 8 14 (h:=?_);(try simp only[pq])
 all_goals
  refine tkU 10 none (h:=fun K hK=> ?_);refine kH 28 _ _ rfl X (trC a.k a.n a.t (.slice none 0 0) (.slice none 0 0)) rfl rfl 28 (trC 0 0 ⟨#[]⟩ (.slice none 0 0) (.slice none 0 0)) HZ2.out kS rfl uAy ?_;intro wa hwa kwa;refine hK.out _ _ ?_;clear hK K;(try simp only[pq]);refine bK hO ?_ _;refine NoPanic.normal ?_;clear hHeld;have hs1:=HS1.out;have hgx:=HGX.out;have hb4:Below w1.heap.size w1 wa:=HW.out.trans (kwa.below uAu);have HX4:=iH (kW hb4 HX1.out);have HR4:=iH (kW hb4 HR1.out);have HB4:=iH (tW HB1.out hb4);have HXA:=iH hwa;have HGX2:Hid (w.heap.size+2<=X):=by show _<=_;omega
  clear hs1 hgx hb4 hwa kwa HW HKS HZX HZ2 HX1 HR1 HB1 HS1 HGX HKA HCN HLG;go_wp2_with (first
   |(refine bR rfl 35 _ rfl w.heap.size rfl 35 _ _ _ HX4.out Tryz.underlying35 rfl aR ?_)
   |(go_at_call 45;(with_reducible refine(HPA.out _).mono ?_);rintro r w5 ⟨rfl,rfl⟩))
  obtain⟨w5,hw5⟩:∃w5,w5=wa.alloc (.cells (aX x) 35):=⟨_,rfl⟩
  obtain⟨Q,hQ⟩:∃Q,Q=wa.heap.size:=⟨_,rfl⟩
  have hb5:Below wa.heap.size wa w5:=by rw[hw5];exact Below.newly' _ _
  have hx5:w5.heap[Q]? =some (.cells (aX x) 35 (0,0)):=by rw[hw5,hQ];exact aF _ _
  have hs5:w5.heap.size=Q+1:=by rw[hw5,hQ];simp
  have hXQ:X<Q:=by rw[hQ];exact(gZ HXA.out)
  have hBX:=HGX2.out;have hXA5:=kW hb5 HXA.out;have hR5:=kW hb5 HR4.out;have hb05:Below w.heap.size w w5:=tW HB4.out hb5;rw[<-hw5,<-hQ];clear hw5 hb5 hQ HX4 HR4 HXA HGX2 HB4;have ht0:fC (w.heap.size+2) X a.k a.n a.t [] (.slice none 0 0) (.slice none 0 0) (.slice none 0 0) [] [] w5:=⟨hBX,hXA5,⟨kM _ _ _ _,by omega,fun _ h=>by cases h⟩,dC.nil uAu,by simp[Value.ownBlock],by rw[iS];rfl⟩
  have hv5:VAt (fun g=>g<w.heap.size+2) w5 a x:=(hv'.low hb05).weak fun g h=>by omega
  have hT5:fW w5:=hT.below hb05;obtain⟨la,hla,hseq⟩:=rU aMg Q (w.heap.size+2) a x ha w5 uAu hx5 hv5 hT5;have hll:=fG hla;have HR5:=iH hR5;have HB5:=iH hb05;refine(gH (n:=5)).1 ?_;refine kJ (n₀:=w.heap.size+2) uAu (aAr oC (w.heap.size+2)) (gf:=77) (lb:=#[.pointer (some ⟨Q,0,none⟩)]) rfl (lX Tryz.func77 hO rfl)
   hseq (fun _=>rfl)
   (fun(pre:List (Stp×Cel)) V=>(∃kv xv css,fC (w.heap.size+2) X a.k a.n a.t (a.ks.take pre.length) xv kv xv css (a.xs.take pre.length) V/\css.length=pre.length)/\Below (w.heap.size+2) w5 V)
   (fun s A B' hrow hs hg hr=>by
    obtain⟨⟨kv,xv,css,h1,h2⟩,h3⟩:=hs;have hsz:w5.heap.size<=A.heap.size:=h3.size;have hI:IKW oC w5.heap.size A B':=mM hg hsz (aE _) hr;exact⟨⟨kv,xv,css,h1.ikw hI (.inl rfl) (.inr rfl),h2⟩,h3.trans (hI.2.1.mono uAu)⟩)
   (fun s A B' h hb=>by
    obtain⟨⟨kv,xv,css,h1,h2⟩,h3⟩:=h;exact⟨⟨kv,xv,css,h1.ikw hb (.inl rfl) (.inr rfl),h2⟩,h3.trans (hb.2.1.mono uAu)⟩)
   (fun s A B' h hb=>by
    obtain⟨⟨kv,xv,css,h1,h2⟩,h3⟩:=h;have hsz:w5.heap.size<=A.heap.size:=h3.size;exact⟨⟨kv,xv,css,h1.later hb,h2⟩,h3.trans (hb.mono uAu)⟩)
   ⟨⟨_,_,[],by simpa using ht0,rfl⟩,aY _ _⟩
   (fun e b V=>V.heap[b]? =some (.cells (rP e.1) 67 (0,0))/\V.heap[b+1]? =some (.cells (aX e.2) 35 (0,0)))
   (fun e b A l o o' h1 h2 h=>⟨by rw[cF (fun e=>by rw[e,h1]at h;cases h.1;cases h2)];exact h.1,by rw[cF (fun e=>by rw[e,h1]at h;cases h.2;cases h2)];exact h.2⟩)
   (fun h hn=>KW.below h hn)
   (fun e' b'=>{tmps:=#[.agg (aX x),.pointer (some ⟨w.heap.size,0,none⟩),.pointer (some ⟨w.heap.size+1,0,none⟩),.pointer (some ⟨X,0,none⟩),.pointer (some ⟨b',0,none⟩),.pointer (some ⟨b'+1,0,none⟩),.agg (aX x),.int .i64 a.k,.pointer (some ⟨w.heap.size,0,none⟩),.pointer (some ⟨w.heap.size,1,none⟩),.int .i64 a.n,.pointer (some ⟨w.heap.size,0,none⟩),.pointer (some ⟨w.heap.size,2,none⟩),.string a.t,.agg #[.int .i64 a.k,.int .i64 a.n,.string a.t,.slice none 0 0,.slice none 0 0],.agg (aX x),.func (.func 77) #[] #[.pointer (some ⟨Q,0,none⟩)],.agg (rP e'.1),.agg (aX e'.2),undef,undef,undef,undef,undef,undef,undef,undef,undef,undef,undef,undef,undef,undef,undef,undef,undef,undef,undef,undef],defers:=[]}) ?_ ?_ ?_
  ·
   exact Aa8
  ·
   rintro j pre e' b' V hVs ⟨⟨kv,xv,css,hti,hcl⟩,hbV⟩ ⟨hst1,hst2⟩ hpl;obtain⟨q,hq⟩:∃q,q=pre.length:=⟨_,rfl⟩
   have hqn:q<a.xs.length:=by
    exact Ac0
   have hat:(fZ a la)[q]? =some e':=by
    obtain⟨t,ht⟩:=hpl;rw[<-ht,hq];simp
   obtain⟨hs1',hs2'⟩:=List.getElem?_zip_eq_some.1 hat;have hvx:VAt (fun g=>g<w.heap.size+2) V (a.xs[q]) e'.2:=by
    exact Ac3
   rw[<-hq]at hti hcl;have hbwV:Below w.heap.size w V:=hb05.trans (hbV.mono uAu);have HTV:Hid (fW V):=hT.below hbwV;have HVX:=iH hvx;have HIH0:=iH (ih (a.xs[q]) (aO hqn));have HVB:=iH (ha.part (aO hqn));have hN4:q<=16383:=by omega
   have hYS:a.xs.take (q+1)=a.xs.take q++[a.xs[q]]:=aS hqn;have hyl:(a.xs.take q).length=q:=by rw[aV];omega
   obtain⟨ys,hys⟩:∃ys,ys=a.xs.take q:=⟨_,rfl⟩
   obtain⟨yt,hyt⟩:∃yt,yt=a.xs[q]:=⟨_,rfl⟩
   rw[<-hyt]at HVX HIH0 HVB;rw[<-hys]at hti;rw[<-hys,<-hyt]at hYS;rw[<-hys]at hyl;have HYS:=iH hYS;have HYL:=iH (And.intro hyl (And.intro hcl hN4));have HQ:=iH hq;obtain⟨⟨s1,s2,s3⟩,xc⟩:=e';have hst:(s1=1/\a.k=5/\a.ks.take (q+1)=a.ks.take q++[s3])\/((s1==1)=false/\a.ks.take (q+1)=a.ks.take q):=by
    unfold pA at hs1';by_cases h4:a.k=4
    ·rw[if_pos h4,List.getElem?_map]at hs1'
     obtain⟨i,_,hi⟩:=gD.1 hs1';have h1:(0:Int)=s1:=bH Prod.fst hi;refine .inr ⟨by rw[<-h1];rfl,?_⟩;rw[(ha.1.1.vec h4).1];simp
    by_cases h5:a.k=5
    ·rw[if_neg h4,if_pos h5,List.getElem?_map]at hs1'
     obtain⟨y,hy,hi⟩:=gD.1 hs1';have h1:(1:Int)=s1:=bH Prod.fst hi;have h3:y=s3:=bH (fun e=>e.2.2) hi;obtain⟨hyq,hy2⟩:=List.getElem?_eq_some_iff.1 hy;exact .inl ⟨h1.symm,h5,by rw[aS hyq,hy2,h3]⟩
    ·rw[if_neg h4,if_neg h5,List.getElem?_map]at hs1'
     obtain⟨i,_,hi⟩:=gD.1 hs1';have h1:(2:Int)=s1:=bH Prod.fst hi;have hk6:a.k=6:=by
      rcases(gO.1 ha.1.1).2 with h|⟨_,_,h|h|h⟩
      ·exfalso;rw[h.2.2.2.2.2]at hqn;simp at hqn
      all_goals omega
     refine .inr ⟨by rw[<-h1];rfl,?_⟩;rw[(ha.1.1.setD hk6).1];simp
   have HHV:=iH (And.intro hs5 (And.intro hXQ hBX));clear hpl hseq hla hll hx5 hT5 hv5 hv' hv ha hT ih hs1' hs2' hvx hat hqn hq hys hyt hYS hyl hN hN6 hXA5 hR5 ht0 hs5 hXQ hBX HPA HR5 hN4 hcl;have ce:V.cell? ⟨b',0,none⟩=some (.int .i64 s1):=aK hst1 rfl;rcases hst with⟨rfl,_,hkk⟩|⟨hs1n,hkk⟩
   rename_i hk5
   have HKK:=iH hkk;clear hkk hk5;have ct:V.cell? ⟨b',2,none⟩=some (.string s3):=aK hst1 rfl;have cK:V.cell? ⟨X,3,none⟩=some kv:=aK hti.box rfl;obtain⟨ak,ck,rfl⟩:=hti.keys.shape';obtain⟨lk,hlk⟩:∃lk,lk=((a.ks.take q).map fun y=>(#[.string y]:Array Value)).length:=⟨_,rfl⟩
   rw[<-hlk]at hti cK;have hlk2:lk<=16383:=by rw[hlk];have:=HYL.out;simp;omega
   have HTI0:=iH hti;have HST2:=iH hst2;have HVS:=iH (And.intro hVs hbV);have HLK:=iH (And.intro hlk hlk2);clear hst1 hst2 hVs hbV hti hlk hlk2;gi_wp2_with (first
    |(refine pP rfl (fun c' hc=>by cases hc) fun K hK=> ?_;refine aCT 25 9 _ _ rfl (B:=w.heap.size+2) (s:=1) (by_:=16) (z:=.string ⟨#[]⟩) (c:=#[.string s3]) rfl (HTI0.out.later (Below.newly' V (.cells #[.string s3] 9))).keys V.heap.size _ rfl (aF _ _) rfl uAy Tryz.underlying25 uK rfl uAv (by have:=HLK.out;omega) uAv ?_;intro kv' V2 h2 hg2 hn2;refine hK _ _ ?_;obtain⟨ak2,ck2,hsk⟩:=h2.shape';obtain⟨m3,hm3⟩:∃m3,m3=((List.map (fun y=>(#[.string y]:Array Value)) (a.ks.take q))++[#[Value.string s3]]).length:=⟨_,rfl⟩;rw[<-hm3]at hsk;subst hsk;clear hm3;have HK2:=iH (And.intro h2 (And.intro hg2 hn2));have hX2:V2.heap[X]? =some (.cells (trC a.k a.n a.t (.slice ak lk ck) xv) 28 (0,0)):=(hg2.block _ (by have:=(gZ HTI0.out.box);simp;omega) (fun e=>(HTI0.out.keys.neX HTI0.out.box uAv) e.symm)).trans ((HTI0.out.later (Below.newly' V (.cells #[.string s3] 9))).box);have HX2:=iH hX2;clear h2 hg2 hn2 hX2 hK K)
    |(refine pP rfl (fun c' hc=>by cases hc) fun K hK=> ?_;refine xJ 25 _ _ rfl X 3 _ rfl rfl rfl 28 _ HX2.out aIx (show 3<5 by omega) ?_;intro V0 h3 k3;refine hK _ _ ?_;have HX3:=iH h3;have HO3:=iH k3;clear h3 k3 hK K))
   have hvs:=HVS.out;have hhv:=HHV.out;have hti0:=HTI0.out;have hsV:=hvs.2.size;have hnw:=Below.newly' V (.cells #[.string s3] 9);have hti1:=hti0.later hnw;have HTI:Hid (fC (w.heap.size+2) X a.k a.n a.t (a.ks.take (q+1)) xv (.slice ak2 m3 ck2) xv css ys V0):=by
    show fC _ _ _ _ _ _ _ _ _ _ _ _;rw[HKK.out];exact hti1.key s3 HK2.out.1 HK2.out.2.1 HK2.out.2.2 HO3.out.by_ HX3.out
   have HKW0:Hid (∀Y,KW oC (w.heap.size+2) Y V V0):=fun Y=>((KW.below hnw uAu).trans (hti1.keys.kw HK2.out.2.1 (aE _) (by have:=hnw.size;omega) (.inl rfl))).trans (KW.grown HO3.out.by_ hti0.low (gZ HX2.out) HX2.out (.inr rfl))
   have HST0:Hid (V0.heap[b'+1]? =some (.cells (aX xc) 35 (0,0))):=(HKW0.out 0).2.2.1 _ _ _ _ HST2.out uAv;clear hvs hhv hti0 hsV hnw hti1 HK2 HX2 HX3 HO3 HLK HST2;obtain⟨kv0,hkv0⟩:∃kv0,kv0=Value.slice ak2 m3 ck2:=⟨_,rfl⟩
   rw[<-hkv0]at HTI;clear hkv0
   rotate_left
   have HKK:=iH hkk
   clear hkk;have HTI:Hid (fC (w.heap.size+2) X a.k a.n a.t (a.ks.take (q+1)) xv kv xv css ys V):=by
    show fC _ _ _ _ _ _ _ _ _ _ _ _;rw[HKK.out];exact hti
   have HST0:=iH hst2;have HVS:=iH (And.intro hVs hbV);have HKW0:Hid (∀Y,KW oC (w.heap.size+2) Y V V):=fun Y=>KW.below (aY _ _) (by have:=hbV.size;have h3:=HHV.out;omega)
   obtain⟨V0,hV0⟩:∃V0,V0=V:=⟨_,rfl⟩
   clear hst1 hst2 hVs hbV hti;gi_wp2_with fail
   clear ce;rw[<-hV0]at HTI HST0 ⊢;obtain⟨kv0,hkv0⟩:∃kv0,kv0=kv:=⟨_,rfl⟩
   rw[<-hkv0]at HTI;clear hkv0;have HKW1:Hid (∀Y,KW oC (w.heap.size+2) Y V V0):=by show∀Y,_;rw[hV0];exact HKW0.out
   clear hV0 HKW0;have HKW0:=HKW1;clear HKW1
   all_goals
    obtain⟨ax,cx,rfl⟩:=HTI.out.items.own.shape';rw[HYL.out.2.1]at HTI;have hq4:(q:Int)<=16383:=by have:=HYL.out.2.2;omega
    have HIH:Hid (∀W,Below V0.heap.size V0 W->Calls Tryz.prog 19 #[.agg (aX xc)] W fun r w'=>∃c,r=.returned (.agg c)/\c.size=5/\TrS (fun g=>W.heap.size<=g) w' yt (.agg c)/\Below W.heap.size W w'):=fun W hW=>by
     have h0:=HHV.out;have hk:=(HKW0.out 0).1;have hs0:=(HKW0.out 0).2.1;have hsv:=HVS.out.2.size;have hbW:Below (w.heap.size+2) V W:=hk.trans (hW.mono uAu);exact HIH0.out W xc HVB.out ((HVX.out.low hbW).weak fun _ _=>trivial) (HTV.out.low (B:=w.heap.size+2) uAu hbW)
    have HKS:Hid (∀V',Below V0.heap.size V0 V'->(V'.cell? ⟨X,4,none⟩=some (.slice ax q cx)/\V'.heap[b'+1]? =some (.cells (aX xc) 35 (0,0)))):=fun V' hV=>⟨aK (kW hV HTI.out.box) rfl,kW hV HST0.out⟩
    have HW:Hid (Below V0.heap.size V0 V0.drew):=bE V0;(try gi_wp2_with fail);refine rB (S:=(fun V'=>V'.cell? ⟨X,4,none⟩=some (.slice ax q cx)/\V'.heap[b'+1]? =some (.cells (aX xc) 35 (0,0)))) [6,7,8,9,10] hO hO (fun⟨_,_,h⟩=>h) uAw (fun hHeld=> ?_);refine tkL 0 29 (h:=?_);refine tkL 1 30 (h:=?_);(try simp only[pq]);refine tyL 2 31 (hy:=aP uAz 35 _ rfl (b'+1) rfl (aX xc) 35 (0,0) _ (fun w hw=>hw.2) Tryz.underlying35 rfl uFz) (h:=?_);refine tkL 4 33 (h:=?_);(try simp only[pq]);refine kN (rs:=[3,5]) hO uBu (mY.cons (o:=⟨some 32,_,_,_,_,_⟩) rfl (fun K hK=> ?_) (mY.cons (o:=⟨some 34,_,_,_,_,_⟩) rfl (fun K hK=> ?_) mY.nil))
    go_simp
    go_at_call 19;(with_reducible refine(HIH.out _ uBy).mono ?_);rintro r wc ⟨tc,rfl,htc,htr,hb⟩;have HTC:=iH htc;have HTR:=iH (htr.weak fun g hg=>aG HW.out.size hg);have HTB:=iH hb;replace HW:=iH (tW HW.out hb);clear hb htc htr;dsimp only;refine hK.out _ _ uAw (fun hHeld=> ?_);clear hK K;(try simp only[pq]);refine tkO 5 (some 34) (h:=fun K hK=> ?_);refine sR 26 28 _ rfl (trC 0 0 ⟨#[]⟩ (.slice none 0 0) (.slice none 0 0)) 5 (.agg (trC 0 0 ⟨#[]⟩ (.slice none 0 0) (.slice none 0 0))) rfl rfl uAv uAv Tryz.underlying26 lH ?_;intro wl hl hbl hzl;have HL:=iH hl;have HBL:=iH hbl;replace HW:=iH (tW HW.out hbl);clear hl hbl hzl;refine hK.out _ _ uAw (fun hHeld=> ?_);clear hK K;(try simp only[pq]);have HTR2:=iH (HTR.out.later HBL.out);have HL2:=HL;have HLG:Hid (∃g:Nat,True):=⟨0,trivial⟩
    have HTC1:Hid (tc.all (·.oneCell')=true):=by show _=true;obtain⟨kk,nn,tt,aa,ll,cc,dd,mm,ee,rfl⟩:=HTR2.out.trv.cells;simp[Value.oneCell']
    refine tkU 6 (some 35) (h:=fun K hK=> ?_);refine oR 26 28 _ _ rfl (B:=w.heap.size+2) (s:=5) (by_:=80) (z:=.agg (trC 0 0 ⟨#[]⟩ (.slice none 0 0) (.slice none 0 0))) (c:=(trC 0 0 ⟨#[]⟩ (.slice none 0 0) (.slice none 0 0))) rfl (HTI.out.later HW.out).items wc.heap.size _ rfl HL2.out rfl uAy Tryz.underlying26 gQ rfl uAv uIw uAv ?_
    rotate_left
    refine sR 26 28 _ rfl (trC 0 0 ⟨#[]⟩ (.slice none 0 0) (.slice none 0 0)) 5 (.agg (trC 0 0 ⟨#[]⟩ (.slice none 0 0) (.slice none 0 0))) rfl rfl uAv uAv Tryz.underlying26 lH ?_
    intro wl hl hbl hzl;have HL:=iH hl;have HBL:=iH hbl;replace HW:=iH (tW HW.out hbl);clear hl hbl hzl;refine hK.out _ _ uAw (fun hHeld=> ?_);clear hK K;(try simp only[pq]);refine tkO 3 (some 32) (h:=fun K hK=> ?_);go_simp;go_at_call 19;(with_reducible refine(HIH.out _ uBy).mono ?_);rintro r wc ⟨tc,rfl,htc,htr,hb⟩;have HTC:=iH htc;have HTR:=iH (htr.weak fun g hg=>aG HW.out.size hg);have HTB:=iH hb;replace HW:=iH (tW HW.out hb);clear hb htc htr;dsimp only;refine hK.out _ _ uAw (fun hHeld=> ?_);clear hK K;(try simp only[pq]);have HTR2:=HTR;have HL2:=iH (kW HTB.out HL.out);have HTC1:Hid (tc.all (·.oneCell')=true):=by show _=true;obtain⟨kk,nn,tt,aa,ll,cc,dd,mm,ee,rfl⟩:=HTR2.out.trv.cells;simp[Value.oneCell']
    refine tkU 6 (some 35) (h:=fun K hK=> ?_);refine oR 26 28 _ _ rfl (B:=w.heap.size+2) (s:=5) (by_:=80) (z:=.agg (trC 0 0 ⟨#[]⟩ (.slice none 0 0) (.slice none 0 0))) (c:=(trC 0 0 ⟨#[]⟩ (.slice none 0 0) (.slice none 0 0))) rfl (HTI.out.later HW.out).items _ _ rfl HL2.out rfl uAy Tryz.underlying26 gQ rfl uAv uIw uAv ?_
    all_goals
     intro xv2 wp hrw hgw hnw;obtain⟨gx,cx2,cur,hsv,hBg,hhg,_⟩:=hrw.at_ uBu;obtain⟨m,hm⟩:∃m,m=(css++[(trC 0 0 ⟨#[]⟩ (.slice none 0 0) (.slice none 0 0))]).length:=⟨_,rfl⟩
     rw[<-hm]at hsv;have hm1:m=q+1:=by rw[hm];have:=HYL.out.2.1;simp;omega
     subst hsv;have hqm:(q:Int)<(m:Int):=by omega
     have hq0:(0:Int)<=(q:Int):=by omega
     obtain⟨htp,htr2⟩:=(HTI.out.later HW.out).grew uIw hrw hgw hnw;have HTP:=iH htp;have HTRP:=iH (htr2 ((HTI.out.later HW.out).news2 HTR2.out (gZ HTI.out.box) (fun g e=>(HTI.out.keys.lt e).2) (fun g e=>(HTI.out.items.own.lt e).2)));have HKWP:Hid (∀Y,KW oC (w.heap.size+2) Y V wp):=fun Y=>((HKW0.out Y).trans (KW.below HW.out (by have h1:=(HKW0.out 0).2.1;have h2:=HVS.out.2.size;have h3:=HHV.out;omega))).trans ((HTI.out.later HW.out).items.own.kw hgw (aE _) (by have h1:=(HKW0.out 0).2.1;have h2:=HVS.out.2.size;have h3:=HHV.out;have h4:=HW.out.size;omega) (.inr rfl))
     have HHG:=iH (And.intro hBg hhg);have HM:=iH (And.intro hm hm1);clear hrw hgw hnw hBg hhg htp htr2 hm hm1;refine hK.out _ _ ?_;clear hK K;(try simp only[pq]);refine tkP 7 36 (h:=?_);refine tkP 9 37 (h:=?_);(try simp only[pq]);refine kN (rs:=[8,10]) hO uBu (mY.consU (o:=⟨none,_,_,_,_,_⟩) rfl uAv (fun K hK=> ?_) (mY.consU (o:=⟨none,_,_,_,_,_⟩) rfl uAv (fun K hK=> ?_) mY.nil))
     refine aF3 28 _ _ rfl HTP.out.items gx cx2 m _ rfl (by show _=_;rw[HYL.out.2.1]) rfl rfl HTC.out HTC1.out kS ?_
     intro wq8 hrq kq8;obtain⟨ht8,hr8⟩:=HTP.out.stored uIw rfl hrq kq8;have HT8:=iH ht8;have HR8:=iH (hr8 HTRP.out);have HKW8:Hid (∀Y,KW oC (w.heap.size+2) Y V wq8):=fun Y=>(HKWP.out Y).trans (KW.grown kq8.by_ HHG.out.1 (gZ HHG.out.2) HHG.out.2 (.inr rfl))
     clear hrq kq8 ht8 hr8;refine hK.out _ _ ?_;clear hK K;(try simp only[pq]);refine tkU 10 none (h:=fun K hK=> ?_);refine xJ 26 _ _ rfl X 4 _ rfl rfl rfl 28 _ HT8.out.box aCJ (show 4<5 by omega) ?_;intro wq10 hxq kq10;obtain⟨htf,hrf⟩:=HT8.out.boxed kq10 hxq;have HTF:=iH htf;have HTRF:=iH (hrf HR8.out);have HKWF:Hid (∀Y,KW oC (w.heap.size+2) Y V wq10):=fun Y=>(HKW8.out Y).trans (KW.grown kq10.by_ HT8.out.low (gZ HT8.out.box) HT8.out.box (.inr rfl))
     clear htf hrf hxq kq10;refine hK.out _ _ ?_;clear hK K;(try simp only[pq]);refine bK hO ?_ _;clear hHeld;focus gi_wp2
     have hkwf:∀Y,KW oC (w.heap.size+2) Y V wq10:=fun Y=>HKWF.out Y
     rotate_left
     refine xJ 26 _ _ rfl X 4 _ rfl rfl rfl 28 _ HTP.out.box aCJ (show 4<5 by omega) ?_
     intro wq10 hxq kq10;obtain⟨ht8,hr8⟩:=HTP.out.boxed kq10 hxq;have HT8:=iH ht8;have HR8:=iH (hr8 HTRP.out);have HG8:=iH (kq10.other HHG.out.2 (fun e=>HTP.out.apart (by rw[<-e];rfl)));have HKW8:Hid (∀Y,KW oC (w.heap.size+2) Y V wq10):=fun Y=>(HKWP.out Y).trans (KW.grown kq10.by_ HTP.out.low (gZ HTP.out.box) HTP.out.box (.inr rfl))
     clear hxq kq10 ht8 hr8;refine hK.out _ _ ?_;clear hK K;(try simp only[pq]);refine tkU 8 none (h:=fun K hK=> ?_);refine aF3 28 _ _ rfl HT8.out.items gx cx2 m _ rfl (by show _=_;rw[HYL.out.2.1]) rfl rfl HTC.out HTC1.out kS ?_;intro wq8 hrq kq8;obtain⟨htf,hrf⟩:=HT8.out.stored uIw rfl hrq kq8;have HTF:=iH htf;have HTRF:=iH (hrf HR8.out);have HKWF:Hid (∀Y,KW oC (w.heap.size+2) Y V wq8):=fun Y=>(HKW8.out Y).trans (KW.grown kq8.by_ HHG.out.1 (gZ HG8.out) HG8.out (.inr rfl))
     clear htf hrf hrq kq8;refine hK.out _ _ ?_;clear hK K;(try simp only[pq]);refine bK hO ?_ _;clear hHeld;gi_wp2
     have hkwf:∀Y,KW oC (w.heap.size+2) Y V wq8:=fun Y=>HKWF.out Y
     all_goals
      refine⟨⟨(hkwf 0).2.1,fun g o hg ho hc=>(hkwf w5.heap.size).2.2.2 g o hg ho hc⟩,hkwf _,⟨kv0,.slice (some ⟨gx,0,none⟩) m cx2,css++[tc],?_,?_⟩,HVS.out.2.trans (hkwf 0).1⟩
      ·rw[aD,bM,<-HQ.out,HYS.out]
       exact HTF.out.part uIw HTC.out HTRF.out
      ·have:=HYL.out
       have:=HQ.out;simp;omega
  ·
   rintro ys V rfl ⟨⟨kv,xv,css,hti,hcl⟩,hbV⟩ hD;have hys:(fZ a la).length=a.xs.length:=by unfold fZ;rw[dN,rV ha.1.1,hll];exact Nat.min_self _
   have hks:a.ks.take a.xs.length=a.ks:=aZ (by
    rcases(gO.1 ha.1.1).2 with h|⟨_,_,h|h|h⟩
    ·rw[h.2.2.2.2.1];exact aQ _
    ·rw[h.2];exact aQ _
    ·exact jZ h.2.1
    ·rw[h.2.1];exact aQ _)
   rw[hys,hks,eN]at hti;rw[hys]at hcl;have hrng:=aBS a ha.1.1;have hkd:=ha.kind;have htz:=aG (eT.1 ha.2).1 (show 3000<=maxLen by decide);have htr:=hti.tree hcl htz (by unfold InR;omega) (nE.1 hrng).1;have hax:Tr.nd a.k a.n a.t a.ks a.xs=a:=by cases a;rfl
   rw[hax]at htr;have HTRR:=iH htr;have HBX:=iH hti.box;have HRV:=iH ((hbV.block (w.heap.size+1) uAu).trans HR5.out);have HBV:=iH (HB5.out.trans (hbV.mono uAu));have HD:=iH hD;have HHV:=iH (And.intro hs5 (And.intro hXQ hBX));obtain⟨ak,lk,ck,rfl⟩:∃ak lk ck,kv=.slice ak lk ck:=by obtain⟨a,c,e⟩:=hti.keys.shape';exact⟨a,_,c,e⟩
   obtain⟨ax,lx,cx,rfl⟩:∃ax lx cx,xv=.slice ax lx cx:=by obtain⟨a,c,e⟩:=hti.items.own.shape';exact⟨a,_,c,e⟩
   clear hti hcl hbV hD hys hks hrng hkd htz htr hseq hla hll hx5 hT5 hv5 hv' hv ha hT ih hN hN6 hXA5 hR5 ht0 hs5 hXQ hBX HPA HR5;go_wp2_with (first
    |(refine bR rfl 28 _ rfl X rfl 28 _ _ _ HBX.out Tryz.underlying28 rfl kS ?_)
    |(refine bV rfl 28 _ _ rfl (w.heap.size+1) (trC a.k a.n a.t (.slice ak lk ck) (.slice ax lx cx)) rfl rfl 28 _ HRV.out kS rfl uAy ?_;intro w8 h8 k8))
   have hh:=HHV.out;have hdl:=(gZ HD.out)
   have hD8:w8.heap[w5.heap.size]? =some (.deferred (some [])):=k8.other HD.out uAu;have h9:=(cF (w:=w8) (o:=.deferred none) (show w.heap.size+1≠w5.heap.size by omega)).trans h8;have hg9:=eM w8 w5.heap.size (.deferred none);have hb8:Below w.heap.size w w8:=HBV.out.trans (k8.below uAu);refine⟨by simp[Act.put],.inl ⟨_,_,rfl,jC hD8,_,cE rfl _ _ (w.heap.size+1) 28 _ (0,0) _ rfl h9 Tryz.underlying28 rfl kS,_,rfl,rfl,?_,hb8.grown hg9 hb8.size fun k e=> ?_⟩⟩
   ·refine((HTRR.out.kept (KT.grown k8.by_ fun Y e hY=> ?_)).kept fun g cur T fr hS hT e=> ?_).weak fun g hg=> ?_
    ·cases e
     have:w.heap.size+2<=w.heap.size+1:=hY;omega
    ·rw[cF (fun e'=>by rw[e',hD8]at e;cases e)]
     exact e
    ·have:w.heap.size+2<=g:=hg
     omega
   ·cases e;omega
end Go.Proofs.YtengibnpebfblaaGreatDoor
