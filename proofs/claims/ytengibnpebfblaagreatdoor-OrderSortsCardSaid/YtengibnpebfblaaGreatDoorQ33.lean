import Derived.Test.YtengibnpebfblaaGreatDoorQ0
import Derived.Test.YtengibnpebfblaaGreatDoorQ29
set_option maxRecDepth 1000000
set_option maxHeartbeats 8000000
set_option linter.unusedSimpArgs false
namespace Go.Proofs.YtengibnpebfblaaGreatDoor
open Go.RowKit
theorem aLn {S:Nat->Prop} (w:World) (s:Nat) (hss:s<18446744073709551616) (n:Int) (L:List Ent) (c:Array Value) (k:ByteArray) (x:Cel) (hk:k.size<=9223372036854775800) (h:eQ S w s n L c) (hL:iO L) (hn:L.length<=50000) (hT:fW w):
  Calls Tryz.prog 119 #[.agg c,.string k,.agg (aX x)] w fun r w'=>∃c',r=.returned (.agg c')/\eQ (fun g=>S g\/w.heap.size<=g) w' s n (lD L k x) c'/\Below w.heap.size w w':=by
 obtain⟨bb,a1,n1,c1,a2,n2,c2,rfl,hnd⟩:=h;obtain⟨l,hl⟩:∃l,l=L.length:=⟨_,rfl⟩
 rw[<-hl];have HSUM:=iH (fun W=>aLm W s hss n l bb a1 n1 c1 a2 n2 c2 k hk);have hfi:=(fun W (hb:Below w.heap.size w W)=>aEc (hsN s n) (aH2 s n) 13 (aE _) (fun g=>S g/\g<w.heap.size) W L _ k (hnd.old.later hb) hL (aG hn uAu))
 rw[show(((13-13:Nat):Nat):Int)=0 from rfl]at hfi;have HWI:=iH (fun W (hb':Below w.heap.size w W) b (he:jI (hsN s n) (fun g=>(S g/\g<w.heap.size)\/w.heap.size+3<=g) W b (k,x))=>aHU (hsN s n) (aH2 s n) 13 (aE _) (fun g=>(S g/\g<w.heap.size)\/w.heap.size+3<=g) W L _ b k x ((hnd.old.later hb').weak fun _ h=>.inl h) hL hn he (hT.below hb'));rw[show(((13-13:Nat):Nat):Int)=0 from rfl]at HWI;obtain⟨sm,hsm⟩:∃sm,sm=hsN s n k:=⟨_,rfl⟩
 rw[<-hsm]at HSUM hfi;have hent:aEi (hsN s n) (k,x)=#[.string k,.int .u64 (sm:Int),.int .i64 x.k,.int .i64 x.n,.string x.t,.pointer x.p]:=by rw[hsm];rfl
 unfold jI at HWI;rw[hent]at HWI;obtain⟨w1,hw1⟩:∃w1,((w.alloc (.cells #[.int .u64 (s:Int),.int .i64 n,.int .i64 ((l:Nat):Int),.int .u32 (bb:Int),.slice a1 n1 c1,.slice a2 n2 c2] 98)).alloc (.cells (aX x) 35)).alloc (.cells #[.int .u64 0,.int .i64 0,.int .i64 0,.int .u32 0,.slice none 0 0,.slice none 0 0] 98)=w1:=⟨_,rfl⟩
 obtain⟨hb1,hx1,hv1,hy1,hs1⟩:=lI hw1;have HV1:=iH hv1;have HX1:=iH hx1;have HY1:=iH hy1;have HB1:=iH hb1;have HS1:=iH hs1;have HHL:=iH (And.intro hL hn);have HLL:=iH hl;cases hg:gL L k with
 |none=>
  have HFI:Hid (∀W,Below w.heap.size w W->Calls Tryz.prog 114 #[.agg #[.int .u32 (bb:Int),.slice a1 n1 c1,.slice a2 n2 c2],.int .i64 0,.int .u64 (sm:Int),.string k] W fun r w'=>r=.returned (.pointer none)/\Below W.heap.size W w'):=fun W hb=>(hfi W hb).mono fun _ _ h=>by
   obtain⟨p,h1,h2,h3⟩:=h;unfold lR at h2;rw[hg]at h2;have h2:p=none:=h2;subst h2;exact⟨h1,h3⟩
  have HGG:=iH hg;clear hx1 hs1 hv1 hy1 hb1 hsm hss hk hnd hL hn hl hT hfi hent hg;unfold pv at HWI;go_enter Tryz.func119,Tryz.ntmps119;go_upto_region 1 with fail
  clear hw1;refine bL (S:=(fun V=>V.heap[w.heap.size]? =some (.cells #[.int .u64 (s:Int),.int .i64 n,.int .i64 ((l:Nat):Int),.int .u32 (bb:Int),.slice a1 n1 c1,.slice a2 n2 c2] 98 (0,0))/\V.heap[w.heap.size+1]? =some (.cells (aX x) 35 (0,0)))) [7] hO uCv (fun hHeld=> ?_);refine tkA 0 8 (h:=?_);refine tyA 1 9 (hy:=aP uAz 98 _ rfl w.heap.size rfl #[.int .u64 (s:Int),.int .i64 n,.int .i64 ((l:Nat):Int),.int .u32 (bb:Int),.slice a1 n1 c1,.slice a2 n2 c2] 98 (0,0) _ (fun w hw=>hw.1) Tryz.underlying98 rfl fV) (h:=?_);(try simp only[pq]);refine tkA 2 10 (h:=?_);refine tyA 4 12 (hy:=aP uAz 35 _ rfl (w.heap.size+1) rfl (aX x) 35 (0,0) _ (fun w hw=>hw.2) Tryz.underlying35 rfl aR) (h:=?_);(try simp only[pq]);refine tkO 3 (some 11) (h:=fun K hK=> ?_);go_simp;go_at_call 115;refine(HSUM.out _).mono ?_;rintro r w2 ⟨rfl,hb⟩;replace hb:Below w1.heap.size w1 w2:=(bE w1).trans hb;have HX2:=iH ((hb.block _ uBx).trans HX1.out);have HV2:=iH ((hb.block _ uBx).trans HV1.out);have HY2:=iH ((hb.block _ uBx).trans HY1.out);have HB2':=iH (tW HB1.out hb);have HS2:Hid (w.heap.size+3<=w2.heap.size):=by show _<=_;have:=hb.size;have:=HS1.out;omega
  clear hb;dsimp only;refine hK.out _ _ uCv (fun hHeld=> ?_);clear hK K;(try simp only[pq]);refine tkA 5 13 (h:=?_);(try simp only[pq]);refine tkO 6 (some 14) (h:=fun K hK=> ?_);go_simp;obtain⟨X,hX⟩:∃X,X=w2.heap.size:=⟨_,rfl⟩
  obtain⟨V2,hV2⟩:∃V2,w2.alloc (.cells #[.string k,.int .u64 (sm:Int),.int .i64 x.k,.int .i64 x.n,.string x.t,.pointer x.p] 163)=V2:=⟨_,rfl⟩
  rw[hV2,<-hX];obtain⟨hb2,he2,hs2⟩:=eA hV2;rw[<-hX]at he2 hs2;have HXX:Hid (w.heap.size+3<=X):=by show _<=_;rw[hX];exact HS2.out
  have HB2:=iH (tW HB2'.out hb2);have HE2:=iH he2;have HXV:=iH ((hb2.block _ uBw).trans HX2.out);have HYV:=iH ((hb2.block _ uBw).trans HY2.out);have HSV:=iH hs2;have HVV:=iH ((hb2.block _ uBw).trans HV2.out);clear hX hV2 hb2 he2 hs2;refine hK.out _ _ uCv (fun hHeld=> ?_);clear hK K;(try simp only[pq]);refine tkU 7 (some 7) (h:=fun K hK=> ?_);go_simp;refine hK.out _ _ ?_;clear hK K;(try simp only[pq]);refine bK hO ?_ _;go_upto_region 2 with fail
  have HKS:Hid (∀V,Below V2.heap.size V2 V->(V.heap[w.heap.size]? =some (.cells #[.int .u64 (s:Int),.int .i64 n,.int .i64 ((l:Nat):Int),.int .u32 (bb:Int),.slice a1 n1 c1,.slice a2 n2 c2] 98 (0,0))/\V.cell? ⟨X,1,none⟩=some (.int .u64 (sm:Int)))):=fun V hV=>
   ⟨(hV.block _ uHx).trans HXV.out,aK ((hV.block _ uNv).trans HE2.out) rfl⟩
  have HW:Hid (Below V2.heap.size V2 V2.drew):=bE V2;refine bL (S:=(fun V=>V.heap[w.heap.size]? =some (.cells #[.int .u64 (s:Int),.int .i64 n,.int .i64 ((l:Nat):Int),.int .u32 (bb:Int),.slice a1 n1 c1,.slice a2 n2 c2] 98 (0,0))/\V.cell? ⟨X,1,none⟩=some (.int .u64 (sm:Int)))) [] hO uAw (fun hHeld=> ?_);refine tkA 0 15 (h:=?_);refine tyA 1 16 (hy:=bT uAz 96 _ rfl w.heap.size 3 rfl #[.int .u32 (bb:Int),.slice a1 n1 c1,.slice a2 n2 c2] _ (fun w hw=>(pW hw.1)) Tryz.underlying96 rfl uUu) (h:=?_);(try simp only[pq]);refine tkA 2 17 (h:=?_);refine tkA 3 18 (h:=?_);(try simp only[pq]);refine tkA 4 19 (h:=?_);refine tkA 5 20 (h:=?_);(try simp only[pq]);refine tkA 6 21 (h:=?_);(try simp only[pq]);refine tkO 7 (some 22) (h:=fun K hK=> ?_);go_simp;go_at_call 114;refine(HFI.out _ (tW HB2.out HW.out)).mono ?_;rintro r w3 ⟨rfl,hb⟩;replace HW:=iH (tW HW.out hb);clear hb;dsimp only;refine hK.out _ _ uAw (fun hHeld=> ?_);clear hK K;(try simp only[pq]);refine tkA 8 23 (h:=?_);(try simp only[pq]);refine bK hO ?_ _;clear hHeld;have HX3:=iH (HKS.out _ HW.out).1;have HY3:=iH ((HW.out.block _ uHx).trans HYV.out);have HE3:=iH ((HW.out.block _ uNv).trans HE2.out);have HWW:=iH (tW HB2.out HW.out);have HSL:Hid (X<w3.heap.size):=by show _<_;have:=HW.out.size;have:=HSV.out;omega
  clear HKS HW;have cx2:w3.cell? ⟨w.heap.size,2,none⟩=some (.int .i64 (l:Int)):=aK HX3.out rfl;obtain⟨l5,hl5⟩:∃l5,l5=l+1:=⟨_,rfl⟩
  have HL5:=iH hl5;have hwr2:wrap64 ((l:Int)+1)=(l5:Int):=by
   have:=HHL.out.2;have:=HLL.out;unfold wrap64;omega
  have hwr:IntKind.i64.wrap ((l:Int)+1)=(l5:Int):=by
   have:=HHL.out.2;have:=HLL.out;rw[gE];omega
  clear hl5;go_wp2_with (first
   |(refine qZ rfl 3 _ _ rfl w.heap.size 2 (.int .i64 (l5:Int)) rfl rfl rfl 98 _ HX3.out aGZ uBu ?_;intro w4 h4 k4;have HX4:Hid (w4.heap[w.heap.size]? =some (.cells #[.int .u64 (s:Int),.int .i64 n,.int .i64 ((l5:Nat):Int),.int .u32 (bb:Int),.slice a1 n1 c1,.slice a2 n2 c2] 98 (0,0))):=h4;have HY4:=iH (k4.other HY3.out uAu);have HE4:=iH (k4.other HE3.out uSz);have HB4:=iH (HWW.out.trans (k4.below (aE _)));have HSL4:=iH k4.size;have HC4:=iH (HWI.out w4 HB4.out X ⟨.inr HXX.out,_,HE4.out⟩);clear h4 k4 cx2)
   |(refine dA rfl 96 _ rfl w.heap.size 3 rfl [.int .u32 (bb:Int),.slice a1 n1 c1,.slice a2 n2 c2] _ (pW HX4.out) Tryz.underlying96 rfl iI ?_)
   |(go_at_call 137;(with_reducible refine HC4.out.mono ?_);rintro r w5 ⟨c5,rfl,hn5,hb5⟩;have HN5:=iH hn5;obtain⟨bb5,b1,m1,d1,b2,m2,d2,rfl⟩:=hn5.three;have HX5:=iH ((hb5.block _ uFu).trans HX4.out);have HY5:=iH ((hb5.block _ uFu).trans HY4.out);have HB5:=iH (tW HB4.out hb5);clear hn5 hb5)
   |(refine aBe rfl 96 _ _ rfl w.heap.size 3 #[.int .u32 (bb5:Int),.slice b1 m1 d1,.slice b2 m2 d2] rfl rfl 98 _ HX5.out iI uBu uAy _ (aHH _ _ _ _ _ _ _ _ _) ?_;intro w6 h6 k6;have HX6:=iH h6;have HK6:=iH k6;have HY6:=iH (k6.other HY5.out uAu);have HB6:=iH (HB5.out.trans (k6.below (aE _)));clear h6 k6)
   |(refine bR uAz 98 _ rfl w.heap.size rfl 98 _ _ _ HX6.out Tryz.underlying98 rfl fV ?_)
   |(refine bV rfl 98 _ _ rfl (w.heap.size+2) #[.int .u64 (s:Int),.int .i64 n,.int .i64 ((l5:Nat):Int),.int .u32 (bb5:Int),.slice b1 m1 d1,.slice b2 m2 d2] rfl rfl 98 _ HY6.out fV rfl uAy ?_;intro w7 h7 k7))
  refine bF (cE rfl _ _ (w.heap.size+2) 98 _ (0,0) _ rfl h7 Tryz.underlying98 rfl fV) rfl ⟨_,rfl,?_,HB6.out.trans (k7.below uAu)⟩;have h1:=HSL.out;have h2:=HSL4.out;have h3:=HXX.out;refine⟨bb5,b1,m1,d1,b2,m2,d2,?_,?_⟩
  ·rw[aAV HHL.out.1,HGG.out,<-HLL.out]
   first|rfl|rw[HL5.out];rfl
  ·exact Ae3
 |some y=>
  have HFI:Hid (∀W,Below w.heap.size w W->Calls Tryz.prog 114 #[.agg #[.int .u32 (bb:Int),.slice a1 n1 c1,.slice a2 n2 c2],.int .i64 0,.int .u64 (sm:Int),.string k] W fun r w'=>∃b:Nat,r=.returned (.pointer (some ⟨b,0,none⟩))/\Below W.heap.size W w'):=fun W hb=>(hfi W hb).mono fun _ _ h=>by
   obtain⟨p,h1,h2,h3⟩:=h;unfold lR at h2;rw[hg]at h2;obtain⟨b,rfl,_⟩:=h2;exact⟨b,h1,h3⟩
  have HGG:=iH hg;clear hx1 hs1 hv1 hy1 hb1 hsm hss hk hnd hL hn hl hT hfi hent hg;unfold pv at HWI;go_enter Tryz.func119,Tryz.ntmps119;go_upto_region 1 with fail
  clear hw1;refine bL (S:=(fun V=>V.heap[w.heap.size]? =some (.cells #[.int .u64 (s:Int),.int .i64 n,.int .i64 ((l:Nat):Int),.int .u32 (bb:Int),.slice a1 n1 c1,.slice a2 n2 c2] 98 (0,0))/\V.heap[w.heap.size+1]? =some (.cells (aX x) 35 (0,0)))) [7] hO uCv (fun hHeld=> ?_);refine tkA 0 8 (h:=?_);refine tyA 1 9 (hy:=aP uAz 98 _ rfl w.heap.size rfl #[.int .u64 (s:Int),.int .i64 n,.int .i64 ((l:Nat):Int),.int .u32 (bb:Int),.slice a1 n1 c1,.slice a2 n2 c2] 98 (0,0) _ (fun w hw=>hw.1) Tryz.underlying98 rfl fV) (h:=?_);(try simp only[pq]);refine tkA 2 10 (h:=?_);refine tyA 4 12 (hy:=aP uAz 35 _ rfl (w.heap.size+1) rfl (aX x) 35 (0,0) _ (fun w hw=>hw.2) Tryz.underlying35 rfl aR) (h:=?_);(try simp only[pq]);refine tkO 3 (some 11) (h:=fun K hK=> ?_);go_simp;go_at_call 115;refine(HSUM.out _).mono ?_;rintro r w2 ⟨rfl,hb⟩;replace hb:Below w1.heap.size w1 w2:=(bE w1).trans hb;have HX2:=iH ((hb.block _ uBx).trans HX1.out);have HV2:=iH ((hb.block _ uBx).trans HV1.out);have HY2:=iH ((hb.block _ uBx).trans HY1.out);have HB2':=iH (tW HB1.out hb);have HS2:Hid (w.heap.size+3<=w2.heap.size):=by show _<=_;have:=hb.size;have:=HS1.out;omega
  clear hb;dsimp only;refine hK.out _ _ uCv (fun hHeld=> ?_);clear hK K;(try simp only[pq]);refine tkA 5 13 (h:=?_);(try simp only[pq]);refine tkO 6 (some 14) (h:=fun K hK=> ?_);go_simp;obtain⟨X,hX⟩:∃X,X=w2.heap.size:=⟨_,rfl⟩
  obtain⟨V2,hV2⟩:∃V2,w2.alloc (.cells #[.string k,.int .u64 (sm:Int),.int .i64 x.k,.int .i64 x.n,.string x.t,.pointer x.p] 163)=V2:=⟨_,rfl⟩
  rw[hV2,<-hX];obtain⟨hb2,he2,hs2⟩:=eA hV2;rw[<-hX]at he2 hs2;have HXX:Hid (w.heap.size+3<=X):=by show _<=_;rw[hX];exact HS2.out
  have HB2:=iH (tW HB2'.out hb2);have HE2:=iH he2;have HXV:=iH ((hb2.block _ uBw).trans HX2.out);have HYV:=iH ((hb2.block _ uBw).trans HY2.out);have HSV:=iH hs2;have HVV:=iH ((hb2.block _ uBw).trans HV2.out);clear hX hV2 hb2 he2 hs2;refine hK.out _ _ uCv (fun hHeld=> ?_);clear hK K;(try simp only[pq]);refine tkU 7 (some 7) (h:=fun K hK=> ?_);go_simp;refine hK.out _ _ ?_;clear hK K;(try simp only[pq]);refine bK hO ?_ _;go_upto_region 2 with fail
  have HKS:Hid (∀V,Below V2.heap.size V2 V->(V.heap[w.heap.size]? =some (.cells #[.int .u64 (s:Int),.int .i64 n,.int .i64 ((l:Nat):Int),.int .u32 (bb:Int),.slice a1 n1 c1,.slice a2 n2 c2] 98 (0,0))/\V.cell? ⟨X,1,none⟩=some (.int .u64 (sm:Int)))):=fun V hV=>
   ⟨(hV.block _ uHx).trans HXV.out,aK ((hV.block _ uNv).trans HE2.out) rfl⟩
  have HW:Hid (Below V2.heap.size V2 V2.drew):=bE V2;refine bL (S:=(fun V=>V.heap[w.heap.size]? =some (.cells #[.int .u64 (s:Int),.int .i64 n,.int .i64 ((l:Nat):Int),.int .u32 (bb:Int),.slice a1 n1 c1,.slice a2 n2 c2] 98 (0,0))/\V.cell? ⟨X,1,none⟩=some (.int .u64 (sm:Int)))) [] hO uAw (fun hHeld=> ?_);refine tkA 0 15 (h:=?_);refine tyA 1 16 (hy:=bT uAz 96 _ rfl w.heap.size 3 rfl #[.int .u32 (bb:Int),.slice a1 n1 c1,.slice a2 n2 c2] _ (fun w hw=>(pW hw.1)) Tryz.underlying96 rfl uUu) (h:=?_);(try simp only[pq]);refine tkA 2 17 (h:=?_);refine tkA 3 18 (h:=?_);(try simp only[pq]);refine tkA 4 19 (h:=?_);refine tkA 5 20 (h:=?_);(try simp only[pq]);refine tkA 6 21 (h:=?_);(try simp only[pq]);refine tkO 7 (some 22) (h:=fun K hK=> ?_);go_simp;go_at_call 114;refine(HFI.out _ (tW HB2.out HW.out)).mono ?_;rintro r w3 ⟨b0,rfl,hb⟩;replace HW:=iH (tW HW.out hb);clear hb;dsimp only;refine hK.out _ _ uAw (fun hHeld=> ?_);clear hK K;(try simp only[pq]);refine tkA 8 23 (h:=?_);(try simp only[pq]);refine bK hO ?_ _;clear hHeld;have HX3:=iH (HKS.out _ HW.out).1;have HY3:=iH ((HW.out.block _ uHx).trans HYV.out);have HE3:=iH ((HW.out.block _ uNv).trans HE2.out);have HWW:=iH (tW HB2.out HW.out);have HSL:Hid (X<w3.heap.size):=by show _<_;have:=HW.out.size;have:=HSV.out;omega
  clear HKS HW;obtain⟨w4,hw4⟩:∃w4,w3=w4:=⟨_,rfl⟩
  subst hw4;have HX4:=HX3;have HY4:=HY3;have HB4:=HWW;have HSL4:Hid (w3.heap.size<=w3.heap.size):=aE _;have HC4:=iH (HWI.out w3 HB4.out X ⟨.inr HXX.out,_,HE3.out⟩);go_wp2_with (first
   |(refine dA rfl 96 _ rfl w.heap.size 3 rfl [.int .u32 (bb:Int),.slice a1 n1 c1,.slice a2 n2 c2] _ (pW HX4.out) Tryz.underlying96 rfl iI ?_)
   |(go_at_call 137;(with_reducible refine HC4.out.mono ?_);rintro r w5 ⟨c5,rfl,hn5,hb5⟩;have HN5:=iH hn5;obtain⟨bb5,b1,m1,d1,b2,m2,d2,rfl⟩:=hn5.three;have HX5:=iH ((hb5.block _ uFu).trans HX4.out);have HY5:=iH ((hb5.block _ uFu).trans HY4.out);have HB5:=iH (tW HB4.out hb5);clear hn5 hb5)
   |(refine aBe rfl 96 _ _ rfl w.heap.size 3 #[.int .u32 (bb5:Int),.slice b1 m1 d1,.slice b2 m2 d2] rfl rfl 98 _ HX5.out iI uBu uAy _ (aHH _ _ _ _ _ _ _ _ _) ?_;intro w6 h6 k6;have HX6:=iH h6;have HK6:=iH k6;have HY6:=iH (k6.other HY5.out uAu);have HB6:=iH (HB5.out.trans (k6.below (aE _)));clear h6 k6)
   |(refine bR uAz 98 _ rfl w.heap.size rfl 98 _ _ _ HX6.out Tryz.underlying98 rfl fV ?_)
   |(refine bV rfl 98 _ _ rfl (w.heap.size+2) #[.int .u64 (s:Int),.int .i64 n,.int .i64 ((l:Nat):Int),.int .u32 (bb5:Int),.slice b1 m1 d1,.slice b2 m2 d2] rfl rfl 98 _ HY6.out fV rfl uAy ?_;intro w7 h7 k7))
  refine bF (cE rfl _ _ (w.heap.size+2) 98 _ (0,0) _ rfl h7 Tryz.underlying98 rfl fV) rfl ⟨_,rfl,?_,HB6.out.trans (k7.below uAu)⟩;have h1:=HSL.out;have h2:=HSL4.out;have h3:=HXX.out;refine⟨bb5,b1,m1,d1,b2,m2,d2,?_,?_⟩
  ·rw[aAV HHL.out.1,HGG.out,<-HLL.out]
   rfl
  ·exact Ae3
theorem aEb {k:Int} (hk:k≠5):∀(l ks:List ByteArray) {xs:List Tr},eP k l xs=eP k ks xs
 |l,ks,[]=>by rw[eP,eP]
 |l,ks,x::r=>by rw[eP,eP,if_neg hk,if_neg hk,aEb hk l.tail ks.tail]
theorem aF6:(Tryz.prog.info? 32).map (·.size)=some 3:=by kernel_rfl
theorem aFd (w:World) (k n:Int) (t:ByteArray) (a:Option Addr) (l c:Nat) (a':Option Addr) (l' c':Nat):Calls Tryz.prog 68 #[.agg (trC k n t (.slice a l c) (.slice a' l' c'))] w fun e w'=>e=.returned (.agg #[.int .i64 k,.int .i64 n,.string t])/\Below w.heap.size w w':=by
 obtain⟨w1,hw1⟩:∃w1,(w.alloc (.cells (trC k n t (.slice a l c) (.slice a' l' c')) 28)).alloc (.cells #[.int .i64 0,.int .i64 0,.string ⟨#[]⟩] 32)=w1:=⟨_,rfl⟩
 obtain⟨hb1,hx1,hr1,hs1⟩:=eR hw1;have cx0:w1.cell? ⟨w.heap.size,0,none⟩=some (.int .i64 k):=aK hx1 rfl;have cx1:w1.cell? ⟨w.heap.size,1,none⟩=some (.int .i64 n):=aK hx1 rfl;have cx2:w1.cell? ⟨w.heap.size,2,none⟩=some (.string t):=aK hx1 rfl;have HR1:=iH hr1;have HB1:=iH hb1;clear hx1 hr1 hb1 hs1;go_enter Tryz.func68,Tryz.ntmps68;go_upto_region 1 with fail
 clear hw1;go_wp2_with (first
  |(refine bV rfl 32 _ _ rfl (w.heap.size+1) #[.int .i64 k,.int .i64 n,.string t] rfl rfl 32 _ HR1.out aF6 rfl uAy ?_;intro w8 h8 k8))
 exact bF (cE rfl _ _ (w.heap.size+1) 32 _ (0,0) _ rfl h8 Tryz.underlying32 rfl aF6) rfl ⟨rfl,HB1.out.trans (k8.below uAu)⟩
theorem aBk (a:Tr):∀(v:Value) (w:World),TrV w a v->dW a->Calls Tryz.prog 38 #[v] w fun e w'=>e=.returned (.string (kB a))/\Below w.heap.size w w':=by
 induction a using fS with
 |h k n t ks xs ih=>
  intro v w hv ha;obtain⟨kv,xv,rfl,ht,_,hn,⟨kd,kcap,kb1,ko,rfl,k1,k2,k3⟩,ad,cap,bb,oo,rfl,h1,hmax,h2⟩:=hv.open';obtain⟨N,hN⟩:∃N,N=xs.length:=⟨_,rfl⟩
  have hN4:N<=16383:=by rw[hN];exact ha.len
  obtain⟨lk,hlk⟩:∃lk,lk=ks.length:=⟨_,rfl⟩
  rw[<-hN]at h1 ⊢;rw[<-hlk]at k1 ⊢;have HIH:=iH ih;have HLO:=iH h1;have HLC:=iH h2;have HVB:=iH ha;have hkd:=ha.kind;simp only[Tr.k]at hkd;clear ih h1 h2 hmax k3;by_cases hk3:k<=3
  ·have HKB:Hid (kB (.nd k n t ks xs)=⟨(kX (k,n,t.data.toList)).toArray⟩):=by
    show _=_;unfold kB;rw[dG,if_pos hk3];rfl
   have HSK:=iH (fun W=>aFf k n t W hn (aG (eT.1 ha.2).1 uAv));have HPL:=iH (fun W=>aFd W k n t kd lk kcap ad N cap);obtain⟨w1,hw1⟩:∃w1,w.alloc (.cells (trC k n t (.slice kd lk kcap) (.slice ad N cap)) 28)=w1:=⟨_,rfl⟩
   obtain⟨hb1,hx1,hs1⟩:=eA hw1;have cx0:w1.cell? ⟨w.heap.size,0,none⟩=some (.int .i64 k):=aK hx1 rfl;have HX1:=iH hx1;have HW:=iH hb1;clear hb1 hx1 hs1 k1 k2 hN hlk hkd ha hv ht hn;go_enter Tryz.func38,Tryz.ntmps38;go_upto_region 1 with fail
   clear hw1;go_wp2_with (first
    |(refine bR rfl 28 _ rfl w.heap.size rfl 28 _ _ _ HX1.out Tryz.underlying28 rfl eF ?_)
    |(go_at_call 68;(with_reducible refine(HPL.out _).mono ?_);rintro r V ⟨rfl,hb⟩;replace HW:=iH (tW HW.out hb);clear hb)
    |(go_at_call 67;(with_reducible refine(HSK.out _).mono ?_);rintro r V ⟨rfl,hb⟩;replace HW:=iH (tW HW.out hb);clear hb))
   have hb:=HW.out;go_ret;exact⟨by rw[HKB.out];rfl,hb⟩
  rcases(show k=4\/k=5\/k=6 by omega)with hk|hk|hk
  ·subst hk
   have hc0:(⟨#[bt8 5]⟩:ByteArray)=⟨(bt8 (4+1)::eP 4 (ks.take 0) (xs.take 0)).toArray⟩:=by rw[eB,eB,eP];rfl
   have hkl:True:=trivial;have htot:(eP 4 ks xs).length+2<=200000000:=by
    exact Ae8
   have HTOT:=iH htot;have HKL:=iH (And.intro hkl (And.intro k1 (And.intro hN hlk)));have HKC:=iH k2;have HC0:=iH hc0;obtain⟨w1,hw1⟩:∃w1,w.alloc (.cells (trC 4 n t (.slice kd lk kcap) (.slice ad N cap)) 28)=w1:=⟨_,rfl⟩
   obtain⟨hb1,hx1,hs1⟩:=eA hw1;have HXC:Hid (∀W,Below w1.heap.size w1 W->∀(i:Nat) (u:Value),(trC 4 n t (.slice kd lk kcap) (.slice ad N cap))[i]? =some u->W.cell? ⟨w.heap.size,i,none⟩=some u):=fun W hb i u hu=>aK ((kW hb hx1)) hu
   have HB1:=iH hb1;have cx0:w1.cell? ⟨w.heap.size,0,none⟩=some (.int .i64 4):=aK hx1 rfl;have hcv:=vV;have hca:∀(w:World) (a:Addr),cv1 w a (some (.int .u8 (5:Int)))=.ok (.string ⟨#[bt8 (4+1)]⟩) w:=fun w a=>aA8 w a 5 uAv uAv
   clear hkl htot hc0 k1 hN hlk k2 ha hv hb1 hx1 hs1 ht;go_enter Tryz.func38,Tryz.ntmps38;go_upto_region 1 with fail
   clear hw1;go_upto_region 4 with fail
   clear cx0 hcv hca;rw[HC0.out];obtain⟨wS,hwS⟩:∃wS,wS=w1.alloc (.cells #[.int .u8 5] 5):=⟨_,rfl⟩
   have HWS:Hid (Below w1.heap.size w1 wS):=by show Below _ _ _;rw[hwS];exact Below.newly' _ _
   rw[<-hwS];have cx4:wS.cell? ⟨w.heap.size,4,none⟩=some (.slice ad N cap):=HXC.out wS HWS.out 4 _ rfl;clear hwS;go_wp2_with fail
   clear cx4;go_loopw [3,4,5,21] (fun s i4 p5 i wl=>∃j:Nat,j<=N/\i=.int .i64 (j:Int)/\s=.string ⟨(bt8 (4+1)::eP 4 (ks.take j) (xs.take j)).toArray⟩/\(∃c,c=i4)/\(∃c,c=p5)/\Hid (Below w1.heap.size w1 wl)) (fun _ _ _ i _=>N-(intOf i).toNat)
   case atStart=>exact⟨0,aQ _,rfl,rfl,⟨_,rfl⟩,⟨_,rfl⟩,HWS.out⟩
   case round=>
    obtain⟨j,hj,rfl,rfl,_,_,HBR⟩:=hrel;have HB:Hid (Below w.heap.size w wr):=tW HB1.out HBR.out;by_cases hlt:j<N
    ·have hlt':(j:Int)<(N:Int):=by omega
     have i0:(0:Int)<=(j:Int):=by omega
     have hlx:j<xs.length:=by rw[<-HKL.out.2.2.1];exact hlt
     have had:ad=some ⟨bb,oo,none⟩:=HLO.out uAu;subst had;obtain⟨cs,c1,c2,c3⟩:=HLC.out j hlx;have hmem:=aO hlx;have hsn:=nV (k:=4) (ks:=ks) hlx;have hle:=tO (k:=4) (ks:=ks) (xs:=xs) (j+1);obtain⟨y,hy⟩:∃y,y=xs[j]:=⟨_,rfl⟩
     rw[<-hy]at c3 hmem hsn;obtain⟨k',n',t',pa,pl,pc,qa,ql,qc,rfl⟩:=c3.cells;have HR:=iH (show wr.rangeAt bb (oo+j*5) (trC k' n' t' (.slice pa pl pc) (.slice qa ql qc)).toList from fun i v hv=>(HB.out.cell (aM w _ (c2 i v hv))).trans (c2 i v hv));have hyb:=HVB.out.part hmem;have HCL:Hid (∀W,Below wr.heap.size wr W->Calls Tryz.prog 38 #[.agg (trC k' n' t' (.slice pa pl pc) (.slice qa ql qc))] W fun e w'=>e=.returned (.string ⟨(dG y).toArray⟩)/\Below W.heap.size W w'):=fun W hW=>HIH.out y hmem _ W (c3.later (tW HB.out hW)) hyb
     have hky:=hyb.key;obtain⟨ky,hkd⟩:∃ky,ky=dG y:=⟨_,rfl⟩
     rw[<-hkd]at hsn hky HCL;obtain⟨l,hl⟩:∃l,l=bt8 (4+1)::eP 4 (ks.take j) (xs.take j):=⟨_,rfl⟩
     have htot:=HTOT.out;rw[if_neg uAv,bD]at hsn;have hll:l.length+ky.length<=200000010:=by
      exact Af5
     have HNX:Hid (bt8 (4+1)::eP 4 (ks.take (j+1)) (xs.take (j+1))=l++ky):=by
      show _=_;rw[hsn,hl];simp
     have HWB:=iH (fun W (hb:Below wr.heap.size wr W)=>tW HB.out hb);have HWC:=iH (fun W (hb:Below wr.heap.size wr W)=>tW HBR.out hb);rw[<-hl];clear c1 c2 c3 hmem hsn hle hy hyb hkd hl htot;go_upto_region 7 with(first
      |(refine lM uAz _ rfl bb (oo+j*5) rfl (trC k' n' t' (.slice pa pl pc) (.slice qa ql qc)) HR.out rfl ?_)
      |(refine bV rfl 28 _ _ rfl wr.heap.size (trC k' n' t' (.slice pa pl pc) (.slice qa ql qc)) rfl rfl 28 (trC 0 0 ⟨#[]⟩ (.slice none 0 0) (.slice none 0 0)) (aF _ _) eF rfl uAy ?_;intro w2 h2 k2))
     have hb2:Below wr.heap.size wr w2:=(Below.newly' _ _).trans (k2.below (aE _));obtain⟨Y,hY⟩:∃Y,Y=wr.heap.size:=⟨_,rfl⟩
     have HY2:=iH h2;have HW:=iH hb2;rw[<-hY]at HY2 ⊢;have cx0:w2.cell? ⟨w.heap.size,0,none⟩=some (.int .i64 4):=HXC.out w2 (HWC.out w2 hb2) 0 _ rfl;exact Ab8
    ·obtain rfl:j=N:=by omega
     have hlt':¬(j:Int)<(j:Int):=by omega
     rw[aZ (l:=xs) uOy,aEb uAv (ks.take j) ks (xs:=xs)];obtain⟨l,hl⟩:∃l,l=bt8 (4+1)::eP 4 ks xs:=⟨_,rfl⟩
     rw[<-hl];have hll:l.length<=200000000:=by rw[hl,aL];have:=HTOT.out;omega
     have HFIN:Hid (kB (.nd 4 n t ks xs)=⟨(l++[0]).toArray⟩):=by
      show _=_;unfold kB;rw[dG,if_neg uAv,hl];rfl
     exact Ag4
  ·subst hk
   have hc0:(⟨#[bt8 6]⟩:ByteArray)=⟨(bt8 (5+1)::eP 5 (ks.take 0) (xs.take 0)).toArray⟩:=by rw[eB,eB,eP];rfl
   have hkl:ks.length=xs.length:=(ha.1.1.mapD rfl).1;have htot:(eP 5 ks xs).length+2<=200000000:=by
    exact Ae8
   have HTOT:=iH htot;have HKL:=iH (And.intro hkl (And.intro k1 (And.intro hN hlk)));have HKC:=iH k2;have HC0:=iH hc0;obtain⟨w1,hw1⟩:∃w1,w.alloc (.cells (trC 5 n t (.slice kd lk kcap) (.slice ad N cap)) 28)=w1:=⟨_,rfl⟩
   obtain⟨hb1,hx1,hs1⟩:=eA hw1;have HXC:Hid (∀W,Below w1.heap.size w1 W->∀(i:Nat) (u:Value),(trC 5 n t (.slice kd lk kcap) (.slice ad N cap))[i]? =some u->W.cell? ⟨w.heap.size,i,none⟩=some u):=fun W hb i u hu=>aK ((kW hb hx1)) hu
   have HB1:=iH hb1;have cx0:w1.cell? ⟨w.heap.size,0,none⟩=some (.int .i64 5):=aK hx1 rfl;have hcv:=vV;have hca:∀(w:World) (a:Addr),cv1 w a (some (.int .u8 (6:Int)))=.ok (.string ⟨#[bt8 (5+1)]⟩) w:=fun w a=>aA8 w a 6 uAv uAv
   clear hkl htot hc0 k1 hN hlk k2 ha hv hb1 hx1 hs1 ht;go_enter Tryz.func38,Tryz.ntmps38;go_upto_region 1 with fail
   clear hw1;go_upto_region 4 with fail
   clear cx0 hcv hca;rw[HC0.out];obtain⟨wS,hwS⟩:∃wS,wS=w1.alloc (.cells #[.int .u8 6] 5):=⟨_,rfl⟩
   have HWS:Hid (Below w1.heap.size w1 wS):=by show Below _ _ _;rw[hwS];exact Below.newly' _ _
   rw[<-hwS];have cx4:wS.cell? ⟨w.heap.size,4,none⟩=some (.slice ad N cap):=HXC.out wS HWS.out 4 _ rfl;clear hwS;go_wp2_with fail
   clear cx4;go_loopw [3,4,5,21] (fun s i4 p5 i wl=>∃j:Nat,j<=N/\i=.int .i64 (j:Int)/\s=.string ⟨(bt8 (5+1)::eP 5 (ks.take j) (xs.take j)).toArray⟩/\(∃c,c=i4)/\(∃c,c=p5)/\Hid (Below w1.heap.size w1 wl)) (fun _ _ _ i _=>N-(intOf i).toNat)
   case atStart=>exact⟨0,aQ _,rfl,rfl,⟨_,rfl⟩,⟨_,rfl⟩,HWS.out⟩
   case round=>
    obtain⟨j,hj,rfl,rfl,_,_,HBR⟩:=hrel;have HB:Hid (Below w.heap.size w wr):=tW HB1.out HBR.out;by_cases hlt:j<N
    ·have hlt':(j:Int)<(N:Int):=by omega
     have i0:(0:Int)<=(j:Int):=by omega
     have hlx:j<xs.length:=by rw[<-HKL.out.2.2.1];exact hlt
     have had:ad=some ⟨bb,oo,none⟩:=HLO.out uAu;subst had;obtain⟨cs,c1,c2,c3⟩:=HLC.out j hlx;have hmem:=aO hlx;have hsn:=nV (k:=5) (ks:=ks) hlx;have hle:=tO (k:=5) (ks:=ks) (xs:=xs) (j+1);obtain⟨y,hy⟩:∃y,y=xs[j]:=⟨_,rfl⟩
     rw[<-hy]at c3 hmem hsn;obtain⟨k',n',t',pa,pl,pc,qa,ql,qc,rfl⟩:=c3.cells;have HR:=iH (show wr.rangeAt bb (oo+j*5) (trC k' n' t' (.slice pa pl pc) (.slice qa ql qc)).toList from fun i v hv=>(HB.out.cell (aM w _ (c2 i v hv))).trans (c2 i v hv));have hyb:=HVB.out.part hmem;have HCL:Hid (∀W,Below wr.heap.size wr W->Calls Tryz.prog 38 #[.agg (trC k' n' t' (.slice pa pl pc) (.slice qa ql qc))] W fun e w'=>e=.returned (.string ⟨(dG y).toArray⟩)/\Below W.heap.size W w'):=fun W hW=>HIH.out y hmem _ W (c3.later (tW HB.out hW)) hyb
     have hky:=hyb.key;obtain⟨ky,hkd⟩:∃ky,ky=dG y:=⟨_,rfl⟩
     rw[<-hkd]at hsn hky HCL;obtain⟨l,hl⟩:∃l,l=bt8 (5+1)::eP 5 (ks.take j) (xs.take j):=⟨_,rfl⟩
     have htot:=HTOT.out;have hjk:j<ks.length:=by rw[HKL.out.1];exact hlx
     obtain⟨yk,hyk⟩:∃yk,yk=ks[j]:=⟨_,rfl⟩
     have hyt:yk.size<=3000:=by rw[hyk];exact(eT.1 HVB.out.2).2.1 _ (aO hjk)
     have hgd:ks.getD j ⟨#[]⟩=yk:=by rw[List.getD_eq_getElem?_getD,List.getElem?_eq_getElem hjk,tB,hyk]
     rw[if_pos rfl,hgd]at hsn;obtain⟨kq,hkq⟩:∃kq,kq=wF yk:=⟨_,rfl⟩
     rw[<-hkq]at hsn;have hkql:kq.length<=7000:=by rw[hkq];exact aG (aFI yk) uAu
     have HSK:Hid (∀W,Calls Tryz.prog 67 #[.agg #[.int .i64 3,.int .i64 0,.string yk]] W fun e w'=>e=.returned (.string ⟨kq.toArray⟩)/\Below W.heap.size W w'):=fun W=>by
      rw[hkq];exact aFf 3 0 yk W aLd uAu
     have hkdd:kd=some ⟨kb1,ko,none⟩:=HKL.out.2.1 uLz;subst hkdd;have hks:=HKC.out j hjk;rw[<-hyk]at hks;have HKS2:Hid (∀W,Below w.heap.size w W->W.cell? ⟨kb1,ko+j,none⟩=some (.string yk)):=fun W hb=>(hb.cell (aM w _ hks)).trans hks
     have hlkN:N=lk:=by rw[HKL.out.2.2.2,HKL.out.1,HKL.out.2.2.1]
     subst hlkN;have hll:l.length+kq.length+ky.length<=200000010:=by
      exact Af5
     have HNX:Hid (bt8 (5+1)::eP 5 (ks.take (j+1)) (xs.take (j+1))=l++kq++ky):=by
      show _=_;rw[hsn,hl];simp
     have HWB:=iH (fun W (hb:Below wr.heap.size wr W)=>tW HB.out hb);have HWC:=iH (fun W (hb:Below wr.heap.size wr W)=>tW HBR.out hb);rw[<-hl];clear c1 c2 c3 hmem hsn hle hy hyb hkd hl htot hjk hyk hyt hgd hkq hks;go_upto_region 7 with(first
      |(refine lM uAz _ rfl bb (oo+j*5) rfl (trC k' n' t' (.slice pa pl pc) (.slice qa ql qc)) HR.out rfl ?_)
      |(refine bV rfl 28 _ _ rfl wr.heap.size (trC k' n' t' (.slice pa pl pc) (.slice qa ql qc)) rfl rfl 28 (trC 0 0 ⟨#[]⟩ (.slice none 0 0) (.slice none 0 0)) (aF _ _) eF rfl uAy ?_;intro w2 h2 k2))
     have hb2:Below wr.heap.size wr w2:=(Below.newly' _ _).trans (k2.below (aE _));obtain⟨Y,hY⟩:∃Y,Y=wr.heap.size:=⟨_,rfl⟩
     have HY2:=iH h2;have HW:=iH hb2;rw[<-hY]at HY2 ⊢;have cx0:w2.cell? ⟨w.heap.size,0,none⟩=some (.int .i64 5):=HXC.out w2 (HWC.out w2 hb2) 0 _ rfl;have cx3:w2.cell? ⟨w.heap.size,3,none⟩=some (.slice (some ⟨kb1,ko,none⟩) N kcap):=HXC.out w2 (HWC.out w2 hb2) 3 _ rfl;have cxk:w2.cell? ⟨kb1,ko+j,none⟩=some (.string yk):=HKS2.out w2 (HWB.out w2 hb2);clear hY h2 hb2 k2;go_upto_region 9 with(first
      |(go_at_call 67;(with_reducible refine(HSK.out _).mono ?_);rintro e w3 ⟨rfl,hb⟩;have HY3:=iH ((kW hb HY2.out));replace HW:=iH (tW HW.out hb);clear hb))
     clear cx0 cx3 cxk;go_wp2_with (first
      |(refine bR rfl 28 _ rfl Y rfl 28 _ _ _ HY3.out Tryz.underlying28 rfl eF ?_)
      |(go_at_call 38;(with_reducible refine(HCL.out _ HW.out).mono ?_);rintro e w4 ⟨rfl,hb⟩;replace HW:=iH (tW HW.out hb);clear hb))
     go_roundw
     case rel=>
      refine⟨j+1,by omega,by go_num,?_,⟨_,rfl⟩,⟨_,rfl⟩,HWC.out _ HW.out⟩;rw[HNX.out];rw[<-qL,<-qL]
     case measure=>simp[intOf];omega
    ·obtain rfl:j=N:=by omega
     have hlt':¬(j:Int)<(j:Int):=by omega
     rw[aZ (l:=xs) uOy,aZ (l:=ks) (by rw[HKL.out.1,<-HKL.out.2.2.1];omega)];obtain⟨l,hl⟩:∃l,l=bt8 (5+1)::eP 5 ks xs:=⟨_,rfl⟩
     rw[<-hl];have hll:l.length<=200000000:=by rw[hl,aL];have:=HTOT.out;omega
     have HFIN:Hid (kB (.nd 5 n t ks xs)=⟨(l++[0]).toArray⟩):=by
      show _=_;unfold kB;rw[dG,if_neg uAv,hl];rfl
     exact Ag4
  ·subst hk
   have hc0:(⟨#[bt8 7]⟩:ByteArray)=⟨(bt8 (6+1)::eP 6 (ks.take 0) (xs.take 0)).toArray⟩:=by rw[eB,eB,eP];rfl
   have hkl:True:=trivial;have htot:(eP 6 ks xs).length+2<=200000000:=by
    exact Ae8
   have HTOT:=iH htot;have HKL:=iH (And.intro hkl (And.intro k1 (And.intro hN hlk)));have HKC:=iH k2;have HC0:=iH hc0;obtain⟨w1,hw1⟩:∃w1,w.alloc (.cells (trC 6 n t (.slice kd lk kcap) (.slice ad N cap)) 28)=w1:=⟨_,rfl⟩
   obtain⟨hb1,hx1,hs1⟩:=eA hw1;have HXC:Hid (∀W,Below w1.heap.size w1 W->∀(i:Nat) (u:Value),(trC 6 n t (.slice kd lk kcap) (.slice ad N cap))[i]? =some u->W.cell? ⟨w.heap.size,i,none⟩=some u):=fun W hb i u hu=>aK ((kW hb hx1)) hu
   have HB1:=iH hb1;have cx0:w1.cell? ⟨w.heap.size,0,none⟩=some (.int .i64 6):=aK hx1 rfl;have hcv:=vV;have hca:∀(w:World) (a:Addr),cv1 w a (some (.int .u8 (7:Int)))=.ok (.string ⟨#[bt8 (6+1)]⟩) w:=fun w a=>aA8 w a 7 uAv uAv
   clear hkl htot hc0 k1 hN hlk k2 ha hv hb1 hx1 hs1 ht;go_enter Tryz.func38,Tryz.ntmps38;go_upto_region 1 with fail
   clear hw1;go_upto_region 4 with fail
   clear cx0 hcv hca;rw[HC0.out];obtain⟨wS,hwS⟩:∃wS,wS=w1.alloc (.cells #[.int .u8 7] 5):=⟨_,rfl⟩
   have HWS:Hid (Below w1.heap.size w1 wS):=by show Below _ _ _;rw[hwS];exact Below.newly' _ _
   rw[<-hwS];have cx4:wS.cell? ⟨w.heap.size,4,none⟩=some (.slice ad N cap):=HXC.out wS HWS.out 4 _ rfl;clear hwS;go_wp2_with fail
   clear cx4;go_loopw [3,4,5,21] (fun s i4 p5 i wl=>∃j:Nat,j<=N/\i=.int .i64 (j:Int)/\s=.string ⟨(bt8 (6+1)::eP 6 (ks.take j) (xs.take j)).toArray⟩/\(∃c,c=i4)/\(∃c,c=p5)/\Hid (Below w1.heap.size w1 wl)) (fun _ _ _ i _=>N-(intOf i).toNat)
   case atStart=>exact⟨0,aQ _,rfl,rfl,⟨_,rfl⟩,⟨_,rfl⟩,HWS.out⟩
   case round=>
    obtain⟨j,hj,rfl,rfl,_,_,HBR⟩:=hrel;have HB:Hid (Below w.heap.size w wr):=tW HB1.out HBR.out;by_cases hlt:j<N
    ·have hlt':(j:Int)<(N:Int):=by omega
     have i0:(0:Int)<=(j:Int):=by omega
     have hlx:j<xs.length:=by rw[<-HKL.out.2.2.1];exact hlt
     have had:ad=some ⟨bb,oo,none⟩:=HLO.out uAu;subst had;obtain⟨cs,c1,c2,c3⟩:=HLC.out j hlx;have hmem:=aO hlx;have hsn:=nV (k:=6) (ks:=ks) hlx;have hle:=tO (k:=6) (ks:=ks) (xs:=xs) (j+1);obtain⟨y,hy⟩:∃y,y=xs[j]:=⟨_,rfl⟩
     rw[<-hy]at c3 hmem hsn;obtain⟨k',n',t',pa,pl,pc,qa,ql,qc,rfl⟩:=c3.cells;have HR:=iH (show wr.rangeAt bb (oo+j*5) (trC k' n' t' (.slice pa pl pc) (.slice qa ql qc)).toList from fun i v hv=>(HB.out.cell (aM w _ (c2 i v hv))).trans (c2 i v hv));have hyb:=HVB.out.part hmem;have HCL:Hid (∀W,Below wr.heap.size wr W->Calls Tryz.prog 38 #[.agg (trC k' n' t' (.slice pa pl pc) (.slice qa ql qc))] W fun e w'=>e=.returned (.string ⟨(dG y).toArray⟩)/\Below W.heap.size W w'):=fun W hW=>HIH.out y hmem _ W (c3.later (tW HB.out hW)) hyb
     have hky:=hyb.key;obtain⟨ky,hkd⟩:∃ky,ky=dG y:=⟨_,rfl⟩
     rw[<-hkd]at hsn hky HCL;obtain⟨l,hl⟩:∃l,l=bt8 (6+1)::eP 6 (ks.take j) (xs.take j):=⟨_,rfl⟩
     have htot:=HTOT.out;rw[if_neg uAv,bD]at hsn;have hll:l.length+ky.length<=200000010:=by
      exact Af5
     have HNX:Hid (bt8 (6+1)::eP 6 (ks.take (j+1)) (xs.take (j+1))=l++ky):=by
      show _=_;rw[hsn,hl];simp
     have HWB:=iH (fun W (hb:Below wr.heap.size wr W)=>tW HB.out hb);have HWC:=iH (fun W (hb:Below wr.heap.size wr W)=>tW HBR.out hb);rw[<-hl];clear c1 c2 c3 hmem hsn hle hy hyb hkd hl htot;go_upto_region 7 with(first
      |(refine lM uAz _ rfl bb (oo+j*5) rfl (trC k' n' t' (.slice pa pl pc) (.slice qa ql qc)) HR.out rfl ?_)
      |(refine bV rfl 28 _ _ rfl wr.heap.size (trC k' n' t' (.slice pa pl pc) (.slice qa ql qc)) rfl rfl 28 (trC 0 0 ⟨#[]⟩ (.slice none 0 0) (.slice none 0 0)) (aF _ _) eF rfl uAy ?_;intro w2 h2 k2))
     have hb2:Below wr.heap.size wr w2:=(Below.newly' _ _).trans (k2.below (aE _));obtain⟨Y,hY⟩:∃Y,Y=wr.heap.size:=⟨_,rfl⟩
     have HY2:=iH h2;have HW:=iH hb2;rw[<-hY]at HY2 ⊢;have cx0:w2.cell? ⟨w.heap.size,0,none⟩=some (.int .i64 6):=HXC.out w2 (HWC.out w2 hb2) 0 _ rfl;exact Ab8
    ·obtain rfl:j=N:=by omega
     have hlt':¬(j:Int)<(j:Int):=by omega
     rw[aZ (l:=xs) uOy,aEb uAv (ks.take j) ks (xs:=xs)];obtain⟨l,hl⟩:∃l,l=bt8 (6+1)::eP 6 ks xs:=⟨_,rfl⟩
     rw[<-hl];have hll:l.length<=200000000:=by rw[hl,aL];have:=HTOT.out;omega
     have HFIN:Hid (kB (.nd 6 n t ks xs)=⟨(l++[0]).toArray⟩):=by
      show _=_;unfold kB;rw[dG,if_neg uAv,hl];rfl
     exact Ag4
open Go.Shelf
attribute [local go_sem] fK
theorem aCS {ops:Array Oper} {rest:List Oper} {o:Oper} {a:Act} {Q:Exit->Act->World->Prop} {w:World} (hgd:o.guard=none) (t e:TypeId) (l c:Operand) (hop:o.op=.makeSlice t l c)
  {B s by_:Nat} {z:Value} (hu:Tryz.prog.underlying t=some (.slice e)) (hi:(Tryz.prog.info? e).map (fun i=>(i.zero,i.size,i.bytes))=some (some z,s,by_)) (kl kc:IntKind) (C:Int) (n:Nat) (hl:a.eval l=.int kl 0) (hc:a.eval c=.int kc C) (hC:C=(n:Int)) (hn:n<=10000000) (hby:by_<=1000000) (hB:B<=w.heap.size)
  (h:∀w',bP B e s (.slice (some ⟨w.heap.size,0,none⟩) 0 n) [] w'->Below w.heap.size w w'->wpList Tryz.prog ops Q rest (a.put o.dst (.slice (some ⟨w.heap.size,0,none⟩) 0 n)) w'):wpList Tryz.prog ops Q (o::rest) a w:=
 cW hgd fun _ hK=>by
  obtain⟨i,hi0,hz,h1,h2⟩:=dV hi;have hb1:by_*n<=1000000*10000000:=wW hby hn;obtain⟨w',hrun,r1,r2⟩:=run_make_own (P:=Tryz.prog) w B t e i z s hu hi0 hz h1 kl kc n uKz uCw hB;subst hC;unfold Oper.wp;simp[execOp,hop,hl,hc,hrun,Result.andThen];have hb:Below w.heap.size w w':=(aY _ _).grown r2 (aE _) (fun k hk=>by cases hk);exact hK _ _ (h w' ⟨nM r1,aG hB hb.size,fun c hc=>by cases hc⟩ hb)
theorem bP.shape {B:Nat} {e:TypeId} {s:Nat} {v:Value} {cs:List (Array Value)} {w:World} (h:bP B e s v cs w):∃a c,v=.slice a cs.length c:=by
 exact Ah9
theorem bP.ikw {Ts:TypeId->Prop} {Y B:Nat} {e:TypeId} {s:Nat} {v:Value} {cs:List (Array Value)} {w w':World} (h:bP B e s v cs w) (k:IKW Ts Y w w') (he:Ts e):bP B e s v cs w':=by
 obtain⟨⟨h1,h2⟩,h3,h4⟩:=h;refine⟨⟨h1,h2.imp_right ?_⟩,aG h3 k.1,h4⟩;exact Ai7
theorem bP.kw {Ts:TypeId->Prop} {B n₀ Y:Nat} {e:TypeId} {s:Nat} {v:Value} {cs:List (Array Value)} {w w':World} (h:bP B e s v cs w) (hg:w.grownBy w' v.ownBlock) (hn:n₀<=B) (hw:n₀<=w.heap.size) (he:Ts e):KW Ts n₀ Y w w':=by
 rcases h.own with h1|⟨g,cur,fz,h1,h2,h3⟩
 ·rw[h1]at hg
  exact KW.below ⟨hg.os,hg.tape,hg.output,hg.size,fun k hk=>hg.block k hk uBu⟩ hw
 ·exact Ak9
theorem bP.ne_box {B X:Nat} {e T:TypeId} {s:Nat} {v u:Value} {cs:List (Array Value)} {w:World} (h:bP B e s v cs w) (hb:Boxed w X T u) (hT:e≠T):v.ownBlock=none\/v.ownBlock≠some X:=by
 exact Ad5
abbrev zN (T:TypeId):Prop:=T=64\/T=67
theorem aK3:vD zN:=⟨by decide,by decide,by decide,by decide,by decide⟩
theorem aF1:(Tryz.prog.info? 67).map (fun i=>(i.zero,i.size,i.bytes))=some (some (.agg #[.int .i64 0,.int .i64 0,.string ⟨#[]⟩]),3,32):=by kernel_rfl
theorem aIy:(Tryz.prog.info? 67).map (fun i=>(i.size,i.zero))=some (3,some (.agg #[.int .i64 0,.int .i64 0,.string ⟨#[]⟩])):=by kernel_rfl
theorem aOp (w:World) (a:Tr) (x:Cel) (ha:dW a) (hv:VAt (fun _=>True) w a x) (hT:fW w):
  Calls Tryz.prog 33 #[.agg (aX x)] w fun r w'=>∃v,r=.returned v/\bP w.heap.size 67 3 v ((pA a).map rP) w'/\Below w.heap.size w w':=by
 obtain⟨w1,hw1⟩:∃w1,w.alloc (.cells (aX x) 35)=w1:=⟨_,rfl⟩
 obtain⟨hb1,hx1,hs1⟩:=eA hw1;have hv':VAt (fun g=>g<w.heap.size) w a x:=hv.old.weak fun _ h=>h.2
 have HLEN:=iH (fun W (hb:Below w.heap.size w W)=>aNx W a x ha (hv.later hb));have HPA:=iH (fun W=>cY.1 (oO 5 x W));have HX1:=iH hx1;have HB1:=iH hb1;have HS1:=iH hs1;obtain⟨N,hN⟩:∃N,N=a.xs.length:=⟨_,rfl⟩
 rw[<-hN]at HLEN;have hN6:N<=16383:=by rw[hN];exact ha.len
 have HN:=iH hN;clear hx1 hb1 hs1 hN hv;refine(cY (n:=5)).1 ?_;refine eW Tryz.func33 rfl trivial ?_ rfl;refine gH.2 ?_;simp only[Tryz.ntmps33,cA,aL,bG,Nat.reduceAdd,Nat.reduceSub,bY,bW,cM,cD,bD,bC];go_upto_region 1 with fail
 clear hw1;go_upto_region 2 with(first
  |(refine bR rfl 35 _ rfl w.heap.size rfl 35 _ _ _ HX1.out Tryz.underlying35 rfl aR ?_)
  |(go_at_call 62;(with_reducible refine(HLEN.out _ HB1.out).mono ?_);rintro r w2 ⟨rfl,hb2⟩;have HB2:=iH (tW HB1.out hb2);have HX2:=iH (kW hb2 HX1.out);clear hb2)
  |(refine aCS (B:=w.heap.size) (by_:=32) (z:=.agg #[.int .i64 0,.int .i64 0,.string ⟨#[]⟩]) rfl 64 67 _ _ rfl Tryz.underlying64 aF1 .i64 .i64 _ N rfl rfl rfl uAu uAv HB2.out.size ?_;intro w3 h3 hb3;have HRO:=iH h3;have HB3:=iH (tW HB2.out hb3);have HX3:=iH (kW hb3 HX2.out);clear h3 hb3))
 obtain⟨w4,hw4⟩:∃w4,w4=w3.alloc (.cells #[.slice (some ⟨w2.heap.size,0,none⟩) 0 N] 64):=⟨_,rfl⟩
 obtain⟨X,hX⟩:∃X,X=w3.heap.size:=⟨_,rfl⟩
 obtain⟨sv,hsv⟩:∃sv,sv=Value.slice (some ⟨w2.heap.size,0,none⟩) 0 N:=⟨_,rfl⟩
 have hb4:Below w3.heap.size w3 w4:=by rw[hw4];exact Below.newly' _ _
 have hXB:Boxed w4 X 64 sv:=by rw[hw4,hX,hsv];exact aF _ _
 have hro4:bP w.heap.size 67 3 sv [] w4:=by rw[hsv];exact HRO.out.later hb4
 have HX4:=iH (kW hb4 HX3.out);have hs4:w4.heap.size=X+1:=by rw[hw4,hX];simp
 have hb04:Below w.heap.size w w4:=tW HB3.out hb4;have hwX:w.heap.size<X:=by have:=(gZ HX3.out);omega
 rw[<-hw4,<-hX];clear hw4 hX hsv hb4 HX1 HX2 HX3 HB2 HRO;go_wp2_with (first
  |(refine bR rfl 35 _ rfl w.heap.size rfl 35 _ _ _ HX4.out Tryz.underlying35 rfl aR ?_)
  |(go_at_call 45;(with_reducible refine(HPA.out _).mono ?_);rintro r w5 ⟨rfl,rfl⟩))
 obtain⟨w5,hw5⟩:∃w5,w5=w4.alloc (.cells (aX x) 35):=⟨_,rfl⟩
 have hb5:Below w4.heap.size w4 w5:=by rw[hw5];exact Below.newly' _ _
 have hx5:w5.heap[X+1]? =some (.cells (aX x) 35 (0,0)):=by rw[hw5,<-hs4];exact aF _ _
 have hs5:w5.heap.size=X+2:=by rw[hw5];simp;omega
 have hb05:Below w.heap.size w w5:=hb04.trans (hb5.mono uAu);have hXB5:Boxed w5 X 64 sv:=(hb5.block _ hXB.lt).trans hXB;have hro5:=hro4.later hb5;obtain⟨l,hl,hseq⟩:=rU aK3 (X+1) w.heap.size a x ha w5 uAu hx5 (hv'.low hb05) (hT.below hb05);have hll:=fG hl;rw[<-hw5];clear hw5 hb5 hro4 hXB hx5 hl hb04 HX4;refine(gH (n:=5)).1 ?_;refine kJ (n₀:=w.heap.size) uAu (aAr zN w.heap.size) (gf:=77) (lb:=#[.pointer (some ⟨X+1,0,none⟩)]) rfl (lX Tryz.func77 hO rfl)
  hseq (fun _=>rfl)
  (fun(pre:List (Stp×Cel)) V=>(∃sv,Boxed V X 64 sv/\bP w.heap.size 67 3 sv (pre.map fun e=>rP e.1) V)/\Below w.heap.size w V)
  (fun s A B row hs hg hr=>by
   obtain⟨⟨sv,h1,h2⟩,h3⟩:=hs;have hI:IKW zN w.heap.size A B:=mM hg h3.size (by rw[hs5];omega) hr;exact⟨⟨sv,hI.2.2 _ _ _ _ h1 (.inl rfl),h2.ikw hI (.inr rfl)⟩,h3.trans hI.2.1⟩)
  (fun s A B h hb=>by
   obtain⟨⟨sv,h1,h2⟩,h3⟩:=h;exact⟨⟨sv,hb.2.2 _ _ _ _ h1 (.inl rfl),h2.ikw hb (.inr rfl)⟩,h3.trans (hb.2.1.mono uAu)⟩)
  (fun s A B h hb=>by
   obtain⟨⟨sv,h1,h2⟩,h3⟩:=h;exact⟨⟨sv,(hb.block _ h1.lt).trans h1,h2.later hb⟩,tW h3 hb⟩)
  ⟨⟨sv,hXB5,hro5⟩,hb05⟩
  (fun x b V=>V.heap[b]? =some (.cells (rP x.1) 67 (0,0)))
  (fun x b A l o o' h1 h2 h=>by rw[cF (fun e=>by rw[e,h1]at h;cases h;cases h2)];exact h)
  (fun h hn=>KW.below h hn)
  (fun x' b'=>{tmps:=#[.agg (aX x),.pointer (some ⟨w.heap.size,0,none⟩),.slice none 0 0,.pointer (some ⟨X,0,none⟩),.pointer (some ⟨b',0,none⟩),.agg (aX x),.int .i64 (N:Int),.slice (some ⟨w2.heap.size,0,none⟩) 0 N,.agg (aX x),.func (.func 77) #[] #[.pointer (some ⟨X+1,0,none⟩)],.agg (rP x'.1),.agg (aX x'.2),undef,undef,undef,undef,undef],defers:=[]}) ?assign ?body ?done
 case assign=>
  intro k x' V K hK;exact Af9
 case body=>
  rintro k pre x' b' V hVs ⟨⟨sv,hXV,hrV⟩,hbV⟩ hst hpl;have cX:=hXV.cell;have hlen:pre.length<=100000:=by
   have h1:=hpl.length_le;have h2:=rV ha.1.1;rw[aD]at h1;unfold fZ at h1;rw[dN,h2]at h1;have:=ha.len;simp at h1;omega
  obtain⟨rs,hrs⟩:∃rs,rs=pre.map fun(e:Stp×Cel)=>rP e.1:=⟨_,rfl⟩
  have hrl:rs.length<=100000:=by rw[hrs,aH];exact hlen
  rw[<-hrs]at hrV;have HST:=iH hst;have HXV:=iH hXV;have HRV:=iH hrV;have HBV:=iH hbV;have HVS:=iH hVs;have HRS:=iH hrs;have HWX:=iH (And.intro hwX hs5);have HRL:=iH hrl;clear hst hpl hbV hVs hXV hrV hrs hwX hs5 hrl hlen hXB5 hro5 hb05 hseq;obtain⟨⟨s1,s2,s3⟩,xc⟩:=x';gi_wp2_with (first
   |(refine aFF rfl 67 _ rfl b' rfl 67 _ _ _ HST.out Tryz.underlying67 rfl pU ?_)
   |(refine pP rfl (fun c' hc=>by cases hc) fun K hK=> ?_;refine sR 64 67 _ rfl (rP (s1,s2,s3)) 3 (.agg #[.int .i64 0,.int .i64 0,.string ⟨#[]⟩]) rfl rfl uAv uAv Tryz.underlying64 aIy ?_;intro V1 h1 hb1 hz1;refine hK _ _ ?_;have HB1':=iH hb1;have HL1:=iH h1;have HR1:=iH (HRV.out.later hb1);clear h1 hb1 hz1 hK K)
   |(refine pP rfl (fun c' hc=>by cases hc) fun K hK=> ?_;refine aHz 64 67 _ _ rfl (B:=w.heap.size) (s:=3) (by_:=32) (z:=.agg #[.int .i64 0,.int .i64 0,.string ⟨#[]⟩]) rfl HR1.out V.heap.size rfl HL1.out rfl uAy Tryz.underlying64 aF1 rfl uAv HRL.out uAv ?_;intro v2 V2 h2 hg2;refine hK _ _ ?_;obtain⟨a2,c2,rfl⟩:=h2.shape;have HR2:=iH h2;have hX2:Boxed V2 X 64 sv:=HR1.out.keepsT hg2 uAv ((HB1'.out.block _ HXV.out.lt).trans HXV.out);have cX2:=hX2.cell;have fX2:=hX2.frozen;have HX2:=iH hX2;have HB2':=iH (And.intro hg2.size (HR1.out.below hg2 (aE _) (aG HBV.out.size HB1'.out.size)));have HG2:=iH hg2;clear h2 hg2 hX2 hK K))
  have hxv:=HXV.out;have hrv:=HR1.out;have hbv:=HBV.out;have hvs:=HVS.out;have hwx:=HWX.out;have hb1:=HB1'.out;have hn1:=aG hbv.size hb1.size;obtain⟨V3,hV3⟩:∃V3,V3=V2.setCell ⟨X,0,none⟩ (.slice a2 (rs.length+1) c2):=⟨_,rfl⟩
  rw[<-hV3];have hg3:V2.grownBy V3 (some X):=by rw[hV3];exact eE V2 X _
  have hX3:Boxed V3 X 64 (.slice a2 (rs.length+1) c2):=by rw[hV3];exact HX2.out.set _
  have hr3:bP w.heap.size 67 3 (.slice a2 (rs.length+1) c2) (rs++[rP (s1,s2,s3)]) V3:=by
   have h:=HR2.out.grown hg3 (HR2.out.ne_box HX2.out uAv);simpa using h
  have hkw:∀Y,KW zN w.heap.size Y V V3:=fun Y=>((KW.below hb1 hbv.size).trans (hrv.kw HG2.out (aE _) hn1 (.inr rfl))).trans (KW.grown hg3 uAu HX2.out.lt HX2.out (.inl rfl))
  refine⟨⟨(hkw 0).2.1,fun g o hg ho hc=>(hkw w5.heap.size).2.2.2 g o hg ho hc⟩,hkw _,⟨_,hX3,?_⟩,hbv.trans (hkw 0).1⟩;rw[bQ,<-HRS.out];exact hr3
 case done=>
  rintro ys V rfl ⟨⟨sv,hXV,hrV⟩,hbV⟩ hD;have cX:=hXV.cell;have HRV:=iH hrV;have HBV:=iH hbV;have HD:=iH hD;clear hrV hbV hD hXV hseq hXB5 hro5;go_wp2_with fail
  have hgp:=eM V w5.heap.size (.deferred none);have hs:=HBV.out.size;have hI:IKW zN w.heap.size V (V.putObj w5.heap.size (.deferred none)):=mM hgp hs (Z:=w5.heap.size) uAu (fun r e=>by cases e;exact⟨aE _,_,HD.out,rfl⟩);have hm:(fZ a l).map (fun e=>rP e.1)=(pA a).map rP:=by
   unfold fZ;have h1:=oD (pA a) l (by rw[rV ha.1.1];omega)
   conv=>rhs;rw[<-h1]
   rw[kC];rfl
  have hr:=HRV.out.ikw hI (.inr rfl);rw[hm]at hr;exact⟨by simp[Act.put],.inl ⟨_,_,rfl,jC HD.out,sv,by simp[results,Tryz.f33,go_sem],sv,rfl,hr,HBV.out.trans hI.2.1⟩⟩
end Go.Proofs.YtengibnpebfblaaGreatDoor
