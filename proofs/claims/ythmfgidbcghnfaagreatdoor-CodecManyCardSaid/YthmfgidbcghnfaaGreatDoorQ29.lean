import Derived.Test.YthmfgidbcghnfaaGreatDoorQ0
import Derived.Test.YthmfgidbcghnfaaGreatDoorQ28
set_option maxRecDepth 1000000
set_option maxHeartbeats 8000000
set_option linter.unusedSimpArgs false
namespace Go.Proofs.YthmfgidbcghnfaaGreatDoor
open Go.RowKit
theorem aTz {S:Nat->Prop} (w:World) (s:Nat) (Cr:s<18446744073709551616) (n:Int) (L:List Ent) (c:Array Value) (k:ByteArray) (x:Cel) (hk:k.size<=9223372036854775800) (h:fG S w s n L c) (hL:jX L) (hn:L.length<=50000) (hT:iF w):
  Calls Tryz.prog 115 #[.agg c,.string k,.agg (aL x)] w fun r w'=>∃c',r=.returned (.agg c')/\fG (fun g=>S g\/w.heap.size<=g) w' s n (nD L k x) c'/\Below w.heap.size w w':=by
 obtain⟨bb,a1,n1,c1,a2,n2,c2,rfl,oh⟩:=h;obtain⟨l,hl⟩:∃l,l=L.length:=⟨_,rfl⟩
 rw[<-hl];have od:=iH (fun W=>aPf W s Cr n l bb a1 n1 c1 a2 n2 c2 k hk);have On:=(fun W (hb:Below w.heap.size w W)=>aG3 (hsN s n) (aJv s n) 13 (aA _) (fun g=>S g/\g<w.heap.size) W L _ k (oh.old.later hb) hL (aI hn hO))
 rw[show(((13-13:Nat):Nat):Int)=0 from rfl]at On;have Aj:=iH (fun W (Bj:Below w.heap.size w W) b (he:jT (hsN s n) (fun g=>(S g/\g<w.heap.size)\/w.heap.size+3<=g) W b (k,x))=>aKL (hsN s n) (aJv s n) 13 (aA _) (fun g=>(S g/\g<w.heap.size)\/w.heap.size+3<=g) W L _ b k x ((oh.old.later Bj).weak fun _ h=>.inl h) hL hn he (hT.below Bj));rw[show(((13-13:Nat):Nat):Int)=0 from rfl]at Aj;obtain⟨sm,Gk⟩:∃sm,sm=hsN s n k:=⟨_,rfl⟩
 rw[<-Gk]at od On;have Am:aG7 (hsN s n) (k,x)=#[.string k,.int .u64 (sm:Int),.int .i64 x.k,.int .i64 x.n,.string x.t,.pointer x.p]:=by rw[Gk];rfl
 unfold jT at Aj;rw[Am]at Aj;obtain⟨w1,ag⟩:∃w1,((w.alloc (.cells #[.int .u64 (s:Int),.int .i64 n,.int .i64 ((l:Nat):Int),.int .u32 (bb:Int),.slice a1 n1 c1,.slice a2 n2 c2] 136)).alloc (.cells (aL x) 37)).alloc (.cells #[.int .u64 0,.int .i64 0,.int .i64 0,.int .u32 0,.slice none 0 0,.slice none 0 0] 136)=w1:=⟨_,rfl⟩
 obtain⟨af,ai,Do,aw,al⟩:=dF ag;have B0:=iH Do;have HX1:=iH ai;have bl:=iH aw;have HB1:=iH af;have HS1:=iH al;have Uz:=iH (And.intro hL hn);have rl:=iH hl;cases hg:jB L k with
 |none=>
  have L3:Hid (∀W,Below w.heap.size w W->Calls Tryz.prog 154 #[.agg #[.int .u32 (bb:Int),.slice a1 n1 c1,.slice a2 n2 c2],.int .i64 0,.int .u64 (sm:Int),.string k] W fun r w'=>r=.returned (.pointer none)/\Below W.heap.size W w'):=fun W hb=>(On W hb).mono fun _ _ h=>by
   obtain⟨p,h1,h2,h3⟩:=h;unfold mO at h2;rw[hg]at h2;have h2:p=none:=h2;subst h2;exact⟨h1,h3⟩
  have L4:=iH hg;clear ai al Do aw af Gk Cr hk oh hL hn hl hT On Am hg;unfold pv at Aj;go_enter Tryz.func115,Tryz.ntmps115;go_upto_region 1 with fail
  clear ag;refine bO (S:=(fun V=>V.heap[w.heap.size]? =some (.cells #[.int .u64 (s:Int),.int .i64 n,.int .i64 ((l:Nat):Int),.int .u32 (bb:Int),.slice a1 n1 c1,.slice a2 n2 c2] 136 (0,0))/\V.heap[w.heap.size+1]? =some (.cells (aL x) 37 (0,0)))) [7] uAu uCv (fun ab=> ?_);refine tkA 0 8 (h:=?_);refine tyA 1 9 (hy:=aJ uAz 136 _ rfl w.heap.size rfl #[.int .u64 (s:Int),.int .i64 n,.int .i64 ((l:Nat):Int),.int .u32 (bb:Int),.slice a1 n1 c1,.slice a2 n2 c2] 136 (0,0) _ (fun w hw=>hw.1) Tryz.underlying136 rfl gP) (h:=?_);(try simp only[pq]);refine tkA 2 10 (h:=?_);refine tyA 4 12 (hy:=aJ uAz 37 _ rfl (w.heap.size+1) rfl (aL x) 37 (0,0) _ (fun w hw=>hw.2) Tryz.underlying37 rfl aF) (h:=?_);(try simp only[pq]);refine tkO 3 (some 11) (h:=fun K hK=> ?_);go_simp;go_at_call 153;refine(od.out _).mono ?_;rintro r w2 ⟨rfl,hb⟩;replace hb:Below w1.heap.size w1 w2:=(aY w1).trans hb;have HX2:=iH ((hb.block _ uBu).trans HX1.out);have j6:=iH ((hb.block _ uBu).trans B0.out);have bo:=iH ((hb.block _ uBu).trans bl.out);have Ml:=iH (tW HB1.out hb);have HS2:Hid (w.heap.size+3<=w2.heap.size):=by show _<=_;have:=hb.size;have:=HS1.out;omega
  clear hb;dsimp only;refine hK.out _ _ uCv (fun ab=> ?_);clear hK K;(try simp only[pq]);refine tkA 5 13 (h:=?_);(try simp only[pq]);refine tkO 6 (some 14) (h:=fun K hK=> ?_);go_simp;obtain⟨X,hX⟩:∃X,X=w2.heap.size:=⟨_,rfl⟩
  obtain⟨V2,Ae⟩:∃V2,w2.alloc (.cells #[.string k,.int .u64 (sm:Int),.int .i64 x.k,.int .i64 x.n,.string x.t,.pointer x.p] 213)=V2:=⟨_,rfl⟩
  rw[Ae,<-hX];obtain⟨ah,Hb,ed⟩:=fH Ae;rw[<-hX]at Hb ed;have jr:Hid (w.heap.size+3<=X):=by show _<=_;rw[hX];exact HS2.out
  have aq:=iH (tW Ml.out ah);have Cw:=iH Hb;have Ie:=iH ((ah.block _ uBv).trans HX2.out);have Ao:=iH ((ah.block _ uBv).trans bo.out);have Fb:=iH ed;have Mk:=iH ((ah.block _ uBv).trans j6.out);clear hX Ae ah Hb ed;refine hK.out _ _ uCv (fun ab=> ?_);clear hK K;(try simp only[pq]);refine tkU 7 (some 7) (h:=fun K hK=> ?_);go_simp;refine hK.out _ _ ?_;clear hK K;(try simp only[pq]);refine bJ uAu ?_ _;go_upto_region 2 with fail
  have ar:Hid (∀V,Below V2.heap.size V2 V->(V.heap[w.heap.size]? =some (.cells #[.int .u64 (s:Int),.int .i64 n,.int .i64 ((l:Nat):Int),.int .u32 (bb:Int),.slice a1 n1 c1,.slice a2 n2 c2] 136 (0,0))/\V.cell? ⟨X,1,none⟩=some (.int .u64 (sm:Int)))):=fun V hV=>
   ⟨(hV.block _ uIz).trans Ie.out,aG ((hV.block _ uQy).trans Cw.out) rfl⟩
  have HW:Hid (Below V2.heap.size V2 V2.drew):=aY V2;refine bO (S:=(fun V=>V.heap[w.heap.size]? =some (.cells #[.int .u64 (s:Int),.int .i64 n,.int .i64 ((l:Nat):Int),.int .u32 (bb:Int),.slice a1 n1 c1,.slice a2 n2 c2] 136 (0,0))/\V.cell? ⟨X,1,none⟩=some (.int .u64 (sm:Int)))) [] uAu uAw (fun ab=> ?_);refine tkA 0 15 (h:=?_);refine tyA 1 16 (hy:=dX uAz 134 _ rfl w.heap.size 3 rfl #[.int .u32 (bb:Int),.slice a1 n1 c1,.slice a2 n2 c2] _ (fun w hw=>(qP hw.1)) Tryz.underlying134 rfl uYu) (h:=?_);(try simp only[pq]);refine tkA 2 17 (h:=?_);refine tkA 3 18 (h:=?_);(try simp only[pq]);refine tkA 4 19 (h:=?_);refine tkA 5 20 (h:=?_);(try simp only[pq]);refine tkA 6 21 (h:=?_);(try simp only[pq]);refine tkO 7 (some 22) (h:=fun K hK=> ?_);go_simp;go_at_call 154;refine(L3.out _ (tW aq.out HW.out)).mono ?_;rintro r w3 ⟨rfl,hb⟩;replace HW:=iH (tW HW.out hb);clear hb;dsimp only;refine hK.out _ _ uAw (fun ab=> ?_);clear hK K;(try simp only[pq]);refine tkA 8 23 (h:=?_);(try simp only[pq]);refine bJ uAu ?_ _;clear ab;have be:=iH (ar.out _ HW.out).1;have dp:=iH ((HW.out.block _ uIz).trans Ao.out);have Rq:=iH ((HW.out.block _ uQy).trans Cw.out);have og:=iH (tW aq.out HW.out);have j4:Hid (X<w3.heap.size):=by show _<_;have:=HW.out.size;have:=Fb.out;omega
  clear ar HW;have ic:w3.cell? ⟨w.heap.size,2,none⟩=some (.int .i64 (l:Int)):=aG be.out rfl;obtain⟨l5,Hh⟩:∃l5,l5=l+1:=⟨_,rfl⟩
  have Jo:=iH Hh;have JN:wrap64 ((l:Int)+1)=(l5:Int):=by
   have:=Uz.out.2;have:=rl.out;unfold wrap64;omega
  have Rr:IntKind.i64.wrap ((l:Int)+1)=(l5:Int):=by
   have:=Uz.out.2;have:=rl.out;rw[jM];omega
  clear Hh;go_wp2_with (first
   |(refine lP rfl 3 _ _ rfl w.heap.size 2 (.int .i64 (l5:Int)) rfl rfl rfl 136 _ be.out aJs uAy ?_;intro w4 h4 k4;have bw:Hid (w4.heap[w.heap.size]? =some (.cells #[.int .u64 (s:Int),.int .i64 n,.int .i64 ((l5:Nat):Int),.int .u32 (bb:Int),.slice a1 n1 c1,.slice a2 n2 c2] 136 (0,0))):=h4;have gg:=iH (k4.other dp.out hO);have If:=iH (k4.other Rq.out uXu);have bg:=iH (og.out.trans (k4.below (aA _)));have Aq:=iH k4.size;have vj:=iH (Aj.out w4 bg.out X ⟨.inr jr.out,_,If.out⟩);clear h4 k4 ic)
   |(refine cO rfl 134 _ rfl w.heap.size 3 rfl [.int .u32 (bb:Int),.slice a1 n1 c1,.slice a2 n2 c2] _ (qP bw.out) Tryz.underlying134 rfl iT ?_)
   |(go_at_call 155;(with_reducible refine vj.out.mono ?_);rintro r w5 ⟨c5,rfl,qj,ay⟩;have E3:=iH qj;obtain⟨Mm,b1,m1,d1,b2,m2,d2,rfl⟩:=qj.three;have fg:=iH ((ay.block _ uGy).trans bw.out);have gk:=iH ((ay.block _ uGy).trans gg.out);have bp:=iH (tW bg.out ay);clear qj ay)
   |(refine aBY rfl 134 _ _ rfl w.heap.size 3 #[.int .u32 (Mm:Int),.slice b1 m1 d1,.slice b2 m2 d2] rfl rfl 136 _ fg.out iT uAy uAx _ (aKr _ _ _ _ _ _ _ _ _) ?_;intro w6 h6 k6;have HX6:=iH h6;have np:=iH k6;have pk:=iH (k6.other gk.out hO);have ek:=iH (bp.out.trans (k6.below (aA _)));clear h6 k6)
   |(refine aW uAz 136 _ rfl w.heap.size rfl 136 _ _ _ HX6.out Tryz.underlying136 rfl gP ?_)
   |(refine aV rfl 136 _ _ rfl (w.heap.size+2) #[.int .u64 (s:Int),.int .i64 n,.int .i64 ((l5:Nat):Int),.int .u32 (Mm:Int),.slice b1 m1 d1,.slice b2 m2 d2] rfl rfl 136 _ pk.out gP rfl uAx ?_;intro w7 h7 k7))
  refine aN (bE rfl _ _ (w.heap.size+2) 136 _ (0,0) _ rfl h7 Tryz.underlying136 rfl gP) rfl ⟨_,rfl,?_,ek.out.trans (k7.below hO)⟩;have h1:=j4.out;have h2:=Aq.out;have h3:=jr.out;refine⟨Mm,b1,m1,d1,b2,m2,d2,?_,?_⟩
  ·rw[aFX Uz.out.1,L4.out,<-rl.out]
   first|rfl|rw[Jo.out];rfl
  ·exact Ae9
 |some y=>
  have L3:Hid (∀W,Below w.heap.size w W->Calls Tryz.prog 154 #[.agg #[.int .u32 (bb:Int),.slice a1 n1 c1,.slice a2 n2 c2],.int .i64 0,.int .u64 (sm:Int),.string k] W fun r w'=>∃b:Nat,r=.returned (.pointer (some ⟨b,0,none⟩))/\Below W.heap.size W w'):=fun W hb=>(On W hb).mono fun _ _ h=>by
   obtain⟨p,h1,h2,h3⟩:=h;unfold mO at h2;rw[hg]at h2;obtain⟨b,rfl,_⟩:=h2;exact⟨b,h1,h3⟩
  have L4:=iH hg;clear ai al Do aw af Gk Cr hk oh hL hn hl hT On Am hg;unfold pv at Aj;go_enter Tryz.func115,Tryz.ntmps115;go_upto_region 1 with fail
  clear ag;refine bO (S:=(fun V=>V.heap[w.heap.size]? =some (.cells #[.int .u64 (s:Int),.int .i64 n,.int .i64 ((l:Nat):Int),.int .u32 (bb:Int),.slice a1 n1 c1,.slice a2 n2 c2] 136 (0,0))/\V.heap[w.heap.size+1]? =some (.cells (aL x) 37 (0,0)))) [7] uAu uCv (fun ab=> ?_);refine tkA 0 8 (h:=?_);refine tyA 1 9 (hy:=aJ uAz 136 _ rfl w.heap.size rfl #[.int .u64 (s:Int),.int .i64 n,.int .i64 ((l:Nat):Int),.int .u32 (bb:Int),.slice a1 n1 c1,.slice a2 n2 c2] 136 (0,0) _ (fun w hw=>hw.1) Tryz.underlying136 rfl gP) (h:=?_);(try simp only[pq]);refine tkA 2 10 (h:=?_);refine tyA 4 12 (hy:=aJ uAz 37 _ rfl (w.heap.size+1) rfl (aL x) 37 (0,0) _ (fun w hw=>hw.2) Tryz.underlying37 rfl aF) (h:=?_);(try simp only[pq]);refine tkO 3 (some 11) (h:=fun K hK=> ?_);go_simp;go_at_call 153;refine(od.out _).mono ?_;rintro r w2 ⟨rfl,hb⟩;replace hb:Below w1.heap.size w1 w2:=(aY w1).trans hb;have HX2:=iH ((hb.block _ uBu).trans HX1.out);have j6:=iH ((hb.block _ uBu).trans B0.out);have bo:=iH ((hb.block _ uBu).trans bl.out);have Ml:=iH (tW HB1.out hb);have HS2:Hid (w.heap.size+3<=w2.heap.size):=by show _<=_;have:=hb.size;have:=HS1.out;omega
  clear hb;dsimp only;refine hK.out _ _ uCv (fun ab=> ?_);clear hK K;(try simp only[pq]);refine tkA 5 13 (h:=?_);(try simp only[pq]);refine tkO 6 (some 14) (h:=fun K hK=> ?_);go_simp;obtain⟨X,hX⟩:∃X,X=w2.heap.size:=⟨_,rfl⟩
  obtain⟨V2,Ae⟩:∃V2,w2.alloc (.cells #[.string k,.int .u64 (sm:Int),.int .i64 x.k,.int .i64 x.n,.string x.t,.pointer x.p] 213)=V2:=⟨_,rfl⟩
  rw[Ae,<-hX];obtain⟨ah,Hb,ed⟩:=fH Ae;rw[<-hX]at Hb ed;have jr:Hid (w.heap.size+3<=X):=by show _<=_;rw[hX];exact HS2.out
  have aq:=iH (tW Ml.out ah);have Cw:=iH Hb;have Ie:=iH ((ah.block _ uBv).trans HX2.out);have Ao:=iH ((ah.block _ uBv).trans bo.out);have Fb:=iH ed;have Mk:=iH ((ah.block _ uBv).trans j6.out);clear hX Ae ah Hb ed;refine hK.out _ _ uCv (fun ab=> ?_);clear hK K;(try simp only[pq]);refine tkU 7 (some 7) (h:=fun K hK=> ?_);go_simp;refine hK.out _ _ ?_;clear hK K;(try simp only[pq]);refine bJ uAu ?_ _;go_upto_region 2 with fail
  have ar:Hid (∀V,Below V2.heap.size V2 V->(V.heap[w.heap.size]? =some (.cells #[.int .u64 (s:Int),.int .i64 n,.int .i64 ((l:Nat):Int),.int .u32 (bb:Int),.slice a1 n1 c1,.slice a2 n2 c2] 136 (0,0))/\V.cell? ⟨X,1,none⟩=some (.int .u64 (sm:Int)))):=fun V hV=>
   ⟨(hV.block _ uIz).trans Ie.out,aG ((hV.block _ uQy).trans Cw.out) rfl⟩
  have HW:Hid (Below V2.heap.size V2 V2.drew):=aY V2;refine bO (S:=(fun V=>V.heap[w.heap.size]? =some (.cells #[.int .u64 (s:Int),.int .i64 n,.int .i64 ((l:Nat):Int),.int .u32 (bb:Int),.slice a1 n1 c1,.slice a2 n2 c2] 136 (0,0))/\V.cell? ⟨X,1,none⟩=some (.int .u64 (sm:Int)))) [] uAu uAw (fun ab=> ?_);refine tkA 0 15 (h:=?_);refine tyA 1 16 (hy:=dX uAz 134 _ rfl w.heap.size 3 rfl #[.int .u32 (bb:Int),.slice a1 n1 c1,.slice a2 n2 c2] _ (fun w hw=>(qP hw.1)) Tryz.underlying134 rfl uYu) (h:=?_);(try simp only[pq]);refine tkA 2 17 (h:=?_);refine tkA 3 18 (h:=?_);(try simp only[pq]);refine tkA 4 19 (h:=?_);refine tkA 5 20 (h:=?_);(try simp only[pq]);refine tkA 6 21 (h:=?_);(try simp only[pq]);refine tkO 7 (some 22) (h:=fun K hK=> ?_);go_simp;go_at_call 154;refine(L3.out _ (tW aq.out HW.out)).mono ?_;rintro r w3 ⟨b0,rfl,hb⟩;replace HW:=iH (tW HW.out hb);clear hb;dsimp only;refine hK.out _ _ uAw (fun ab=> ?_);clear hK K;(try simp only[pq]);refine tkA 8 23 (h:=?_);(try simp only[pq]);refine bJ uAu ?_ _;clear ab;have be:=iH (ar.out _ HW.out).1;have dp:=iH ((HW.out.block _ uIz).trans Ao.out);have Rq:=iH ((HW.out.block _ uQy).trans Cw.out);have og:=iH (tW aq.out HW.out);have j4:Hid (X<w3.heap.size):=by show _<_;have:=HW.out.size;have:=Fb.out;omega
  clear ar HW;obtain⟨w4,j0⟩:∃w4,w3=w4:=⟨_,rfl⟩
  subst j0;have bw:=be;have gg:=dp;have bg:=og;have Aq:Hid (w3.heap.size<=w3.heap.size):=aA _;have vj:=iH (Aj.out w3 bg.out X ⟨.inr jr.out,_,Rq.out⟩);go_wp2_with (first
   |(refine cO rfl 134 _ rfl w.heap.size 3 rfl [.int .u32 (bb:Int),.slice a1 n1 c1,.slice a2 n2 c2] _ (qP bw.out) Tryz.underlying134 rfl iT ?_)
   |(go_at_call 155;(with_reducible refine vj.out.mono ?_);rintro r w5 ⟨c5,rfl,qj,ay⟩;have E3:=iH qj;obtain⟨Mm,b1,m1,d1,b2,m2,d2,rfl⟩:=qj.three;have fg:=iH ((ay.block _ uGy).trans bw.out);have gk:=iH ((ay.block _ uGy).trans gg.out);have bp:=iH (tW bg.out ay);clear qj ay)
   |(refine aBY rfl 134 _ _ rfl w.heap.size 3 #[.int .u32 (Mm:Int),.slice b1 m1 d1,.slice b2 m2 d2] rfl rfl 136 _ fg.out iT uAy uAx _ (aKr _ _ _ _ _ _ _ _ _) ?_;intro w6 h6 k6;have HX6:=iH h6;have np:=iH k6;have pk:=iH (k6.other gk.out hO);have ek:=iH (bp.out.trans (k6.below (aA _)));clear h6 k6)
   |(refine aW uAz 136 _ rfl w.heap.size rfl 136 _ _ _ HX6.out Tryz.underlying136 rfl gP ?_)
   |(refine aV rfl 136 _ _ rfl (w.heap.size+2) #[.int .u64 (s:Int),.int .i64 n,.int .i64 ((l:Nat):Int),.int .u32 (Mm:Int),.slice b1 m1 d1,.slice b2 m2 d2] rfl rfl 136 _ pk.out gP rfl uAx ?_;intro w7 h7 k7))
  refine aN (bE rfl _ _ (w.heap.size+2) 136 _ (0,0) _ rfl h7 Tryz.underlying136 rfl gP) rfl ⟨_,rfl,?_,ek.out.trans (k7.below hO)⟩;have h1:=j4.out;have h2:=Aq.out;have h3:=jr.out;refine⟨Mm,b1,m1,d1,b2,m2,d2,?_,?_⟩
  ·rw[aFX Uz.out.1,L4.out,<-rl.out]
   rfl
  ·exact Ae9
theorem aG9 (s:ByteArray) (k:Nat) (hs:s.size<=2000000):(4::yL (s.data.toList.take k)).length<=4000001:=by
 have h:=aKY (s.data.toList.take k);have h2:(s.data.toList.take k).length<=2000000:=by rw[bQ,cY];omega
 simp only[aD];omega
theorem aJ5 (s:ByteArray) (w:World) (hs:s.size<=2000000):
  Calls Tryz.prog 143 #[.string s] w fun e w'=>e=.returned (.string ⟨(4::(yL s.data.toList++[0,0])).toArray⟩)/\Below w.heap.size w w':=by
 go_enter Tryz.func143,Tryz.ntmps143;go_wp2_with (first
  |(refine aIw rfl _ _ rfl _ _ _ (s.size+3) rfl rfl hO hO (aA w.heap.size) ?_;intro v0 w0 mf Rs;have tb:=iH mf;have Rt:=iH Rs;clear mf Rs)
  |(at_builtin;go_loud (refine cT rfl (.tmp 10) (.tmp 11) rfl rfl tb.out [4] _ rfl 1 1 rfl rfl uAv ?_);intro v1 w1 af th;have HB1:=iH af;have Ru:=iH th;clear af th))
 go_loopw [3,15] (fun v i wr=>∃k:Nat,k<=s.size/\i=.int .i64 k/\Buf w.heap.size v (4::yL (s.data.toList.take k)) wr/\Below w.heap.size w wr) (fun _ i _=>s.size-(intOf i).toNat)
 case atStart=>exact⟨0,aS _,rfl,HB1.out,Rt.out.trans Ru.out⟩
 case round=>
  obtain⟨k,hk,rfl,ot,om⟩:=hrel;have HB:=iH ot;have HW:=iH om;have bz:=iH (aG9 s k hs);clear ot om tb Rt HB1 Ru;by_cases hlt:k<s.size
  ·have HF:=iH (aPK s k hlt)
   by_cases h0:s[k]=0
   ·have Dj:(s[k].toNat:Int)=0:=by rw[h0];rfl
    rw[h0]at HF;clear h0;go_wp2_with (first
     |(at_builtin;go_loud (refine cT rfl (.tmp 24) (.tmp 25) rfl rfl HB.out [0] _ rfl 1 1 rfl rfl (by have:=bz.out;have h1:[(0:UInt8)].length=1:=rfl;omega) ?_);intro v2 w2 ah cw;have aq:=iH ah;have fu:=iH cw;clear ah cw)
     |(at_builtin;go_loud (refine cT rfl (.tmp 27) (.tmp 29) rfl rfl aq.out [255] _ rfl 1 1 rfl rfl (by have:=bz.out;have h1:[(255:UInt8)].length=1:=rfl;rw[aB];have h2:[(0:UInt8)].length=1:=rfl;omega) ?_);intro v3 w3 au Mn;have av:=iH au;have na:=iH Mn;clear au Mn))
    go_roundw
    case rel=>
     refine⟨k+1,by omega,by go_num,?_,(HW.out.trans fu.out).trans na.out⟩;have h:=av.out;rw[bG]at h;rw[HF.out];exact h
    case measure=>simp[intOf];omega
   ·have Dj:¬(s[k].toNat:Int)=0:=fun e=>h0 (gX.1 (by simpa using e))
    have HC:Hid (yM s[k]=[s[k]]):=by show _=_;simp[yM,h0]
    clear h0;go_wp2_with (at_builtin;go_loud (refine cT rfl (.tmp 27) (.tmp 29) rfl rfl HB.out [s[k]] _ rfl 1 1 rfl rfl uOx ?_);intro v2 w2 ah cw;have aq:=iH ah;have fu:=iH cw;clear ah cw)
    go_roundw
    case rel=>
     refine⟨k+1,by omega,by go_num,?_,HW.out.trans fu.out⟩;have h:=aq.out;rw[HF.out,HC.out];exact h
    case measure=>simp[intOf];omega
  ·have HF:Hid (yL (s.data.toList.take k)=yL s.data.toList):=by show _=_;rw[bC (by rw[cY];omega)]
   go_wp2_with (at_builtin;go_loud (refine cT rfl (.tmp 32) (.tmp 33) rfl rfl HB.out [0,0] _ rfl 2 2 rfl rfl (by have:=bz.out;have h1:[(0:UInt8),0].length=2:=rfl;omega) ?_);intro v2 w2 ah cw;have z8:=ah.str;have fu:=iH cw;clear ah cw)
   go_ret;exact⟨by rw[<-HF.out];rfl,HW.out.trans fu.out⟩
theorem aM9 {W w1:World} (hb:Below W.heap.size W w1) (b o:Nat) (h:b<W.heap.size):w1.cell? ⟨b,o,none⟩=W.cell? ⟨b,o,none⟩:=hb.cell (p:=⟨b,o,none⟩) h
theorem aFW (l:List UInt8) (cs:Array Value) (hc:cs.toList=bv l) (hl:l.length<=4096) (W:World):
  (convert 72 9 (.slice (some ⟨W.heap.size,0,none⟩) l.length l.length)).run Tryz.prog (W.alloc (.cells cs 5))=.ok (.string ⟨l.toArray⟩) (W.alloc (.cells cs 5)):=
 (Buf.lit (B:=W.heap.size) (aA _) cs l hc hl).str
theorem aNZ (k n:Int) (t:ByteArray) (w:World) (hn:InR n) (ht:t.size<=2000000):
  Calls Tryz.prog 105 #[scV k n t] w fun e w'=>e=.returned (.string ⟨(pW (scT k n t)).toArray⟩)/\Below w.heap.size w w':=by
 have mf:Below w.heap.size w (w.alloc (.cells #[.int .i64 k,.int .i64 n,.string t] 34)):=Below.newly' w _;have HN:=iH mf;have HC:=iH (fun W=>aH5 k n t W);have HV:=iH (fun W=>aJ5 t W ht);have HB:=iH (fun W=>aMb n W hn);clear hn mf ht;by_cases hc:iB (scT k n t)=0
 ·have key:∀(W:World),Below (w.alloc (.cells #[.int .i64 k,.int .i64 n,.string t] 34)).heap.size (w.alloc (.cells #[.int .i64 k,.int .i64 n,.string t] 34)) W->
    W.cell? ⟨w.heap.size,0,none⟩=some (.int .i64 k)/\W.cell? ⟨w.heap.size,1,none⟩=some (.int .i64 n)/\W.cell? ⟨w.heap.size,2,none⟩=some (.string t)/\Below w.heap.size w W:=fun W h=>
   ⟨(h.cell (p:=⟨w.heap.size,0,none⟩) uAy).trans uAy,(h.cell (p:=⟨w.heap.size,1,none⟩) uAy).trans uAy,(h.cell (p:=⟨w.heap.size,2,none⟩) uAy).trans uAy,tW HN.out h⟩
  have Rv:=iH key;clear key;rcases xM _ hc with h|h|h|⟨m,h⟩|⟨u,h⟩
  ·simp only[cZ]at h
   obtain⟨rfl,rfl,h3⟩:=h;have H3:Hid (scT 0 0 t=(0,0,[])):=aU (fun l=>((0:Int),(0:Int),l)) h3;rw[H3.out]at HC ⊢;clear h3 hc H3;have z8:=aFW [1] #[.int .u8 1] rfl uAv;simp only[aD,aK]at z8;go_enter Tryz.func105,Tryz.ntmps105;go_wp2_with fail
   refine(HC.out _).mono ?_;rintro e w1 ⟨rfl,hb⟩;obtain⟨c0,c1,c2,af⟩:=Rv.out _ hb;have H1:=iH af;clear hb af;rw[aPT];go_wp2_with fail
   go_ret;exact⟨by rw[aHM];rfl,Below.more H1.out _⟩
  ·simp only[cZ]at h
   obtain⟨rfl,rfl,h3⟩:=h;have H3:Hid (scT 1 0 t=(1,0,[])):=aU (fun l=>((1:Int),(0:Int),l)) h3;rw[H3.out]at HC ⊢;clear h3 hc H3;have z8:=aFW [2,0] #[.int .u8 2,.int .u8 0] rfl uAv;simp only[aD,aK]at z8;go_enter Tryz.func105,Tryz.ntmps105;go_wp2_with fail
   refine(HC.out _).mono ?_;rintro e w1 ⟨rfl,hb⟩;obtain⟨c0,c1,c2,af⟩:=Rv.out _ hb;have H1:=iH af;clear hb af;rw[aMS];go_wp2_with fail
   go_ret;exact⟨by rw[aED];rfl,Below.more H1.out _⟩
  ·simp only[cZ]at h
   obtain⟨rfl,rfl,h3⟩:=h;have H3:Hid (scT 1 1 t=(1,1,[])):=aU (fun l=>((1:Int),(1:Int),l)) h3;rw[H3.out]at HC ⊢;clear h3 hc H3;have z8:=aFW [2,1] #[.int .u8 2,.int .u8 1] rfl uAv;simp only[aD,aK]at z8;go_enter Tryz.func105,Tryz.ntmps105;go_wp2_with fail
   refine(HC.out _).mono ?_;rintro e w1 ⟨rfl,hb⟩;obtain⟨c0,c1,c2,af⟩:=Rv.out _ hb;have H1:=iH af;clear hb af;rw[aPQ];go_wp2_with fail
   go_ret;exact⟨by rw[aHK];rfl,Below.more H1.out _⟩
  ·simp only[cZ]at h
   obtain⟨rfl,rfl,h3⟩:=h;have H3:Hid (scT 2 n t=(2,n,[])):=aU (fun l=>((2:Int),(n:Int),l)) h3;rw[H3.out]at HC ⊢;clear h3 hc H3;have z8:=aS4;have NB:∀(w:World) (a:Addr),cv1 w a (some (.int .u8 3))=.ok (.string ⟨#[3]⟩) w:=fun w a=>aTM w a 3 uAv uAv
   have hl:(wK n).length=8:=aDh n;go_enter Tryz.func105,Tryz.ntmps105;go_wp2_with fail
   refine(HC.out _).mono ?_;rintro e w1 ⟨rfl,hb⟩;obtain⟨c0,c1,c2,af⟩:=Rv.out _ hb;have H1:=iH af;have de:w.heap.size<w1.heap.size:=by have:=hb.size;simp at this;omega
   clear hb af;rw[aL0];go_wp2_with fail
   go_region_with (go_at_call 142;refine(HB.out _).mono ?_;rintro e w' ⟨rfl,hb⟩;have Oo:=aM9 hb;have aq:=iH hb;clear hb)
   all_goals go_wp2_with fail
   all_goals go_ret
   all_goals refine⟨by rw[aKE,show(3::wK n)=[3]++wK n from rfl,<-aTS];rfl,?_⟩
   all_goals first
    |exact Below.chain H1.out (Below.chain (Below.laid _ _) (Below.chain (Below.drawn _) aq.out))
    |exact Below.chain H1.out (Below.chain (Below.drawn _) (Below.chain (Below.laid _ _) aq.out))
    |exact Below.chain H1.out (Below.chain (Below.drawn _) (Below.chain aq.out (Below.laid _ _)))
  ·simp only[cZ]at h
   obtain⟨rfl,rfl,h3⟩:=h;have HK:Hid (iB (scT 3 0 t)=0):=hc;clear h3 hc;go_enter Tryz.func105,Tryz.ntmps105;go_wp2_with fail
   refine(HC.out _).mono ?_;rintro e w1 ⟨rfl,hb⟩;obtain⟨c0,c1,c2,af⟩:=Rv.out _ hb;have H1:=iH af;clear hb af;rw[HK.out];go_wp2_with fail
   refine(HV.out _).mono ?_;rintro e w2 ⟨rfl,hb⟩;have H2:=iH (tW H1.out hb);clear hb;go_wp2_with fail
   go_ret;exact⟨by rw[aHL];rfl,H2.out⟩
 ·have HK:=iH (aKF _ hc)
  obtain⟨c,Ig⟩:∃c,iB (scT k n t)=c:=⟨_,rfl⟩
  rw[Ig]at HC hc;have CW:(c !=0)=true:=by simp[hc]
  clear Ig hc;go_enter Tryz.func105,Tryz.ntmps105;go_wp2_with fail
  refine(HC.out _).mono ?_;rintro e w1 ⟨rfl,hb⟩;have H1:=iH (tW HN.out hb);clear hb;go_wp2_with fail
  go_ret;exact⟨by rw[HK.out];rfl,H1.out⟩
def LsT (S:Nat->Prop) (W:World) (T:TypeId) (s:Nat) (v:Value) (cs:List Value) (n:Nat):Prop:=
 cs.length=n*s/\n<=maxLen/\∃(a:Option Addr) (c:Nat),v=.slice a n c/\n<=c/\((a=none/\c=0)\/∃(g o:Nat) (aj:Array Value) (fr:Nat×Nat),a=some ⟨g,o,none⟩/\S g/\W.heap[g]? =some (.cells aj T fr)/\∀(j:Nat) (u:Value),cs[j]? =some u->aj[o+j]? =some u)
def KT (S:Nat->Prop) (w w':World):Prop:=∀(g:Nat) (aj:Array Value) (T:TypeId) (fr:Nat×Nat),S g->(T=9\/T=28)->w.heap[g]? =some (.cells aj T fr)->w'.heap[g]? =some (.cells aj T fr)
mutual
def TrS (S:Nat->Prop) (W:World):Tr->Value->Prop
 | .nd k n t ks xs,v=>∃(kv xv:Value) (css:List (Array Value)),v=.agg (trC k n t kv xv)/\t.size<=maxLen/\InR k/\InR n/\LsT S W 9 1 kv (ks.map Value.string) ks.length/\LsT S W 28 5 xv (css.flatMap Array.toList) xs.length/\mN S W xs css
def mN (S:Nat->Prop) (W:World):List Tr->List (Array Value)->Prop
 |[],l=>l=[]
 |x::r,l=>∃c l',l=c::l'/\c.size=5/\TrS S W x (.agg c)/\mN S W r l'
end
section
variable {S S' : Nat → Prop} {W W' CX : World} {T : TypeId} {s n : Nat} {v : Value} {cs : List Value}
theorem KT.refl:KT S W W:=fun _ _ _ _ _ _ h=>h
theorem KT.trans (h:KT S W W') (k:KT S W' CX):KT S W CX:=fun g aj T fr hg hT e=>k g aj T fr hg hT (h g aj T fr hg hT e)
theorem KT.weak (h:KT S' W W') (hS:∀g,S g->S' g):KT S W W':=fun g aj T fr hg=>h g aj T fr (hS g hg)
theorem KT.later (hb:Below W.heap.size W W'):KT S W W':=fun g _ _ _ _ _ h=>(hb.block g (gZ h)).trans h
theorem KT.low {n₀:Nat} (hb:Below n₀ W W') (hS:∀g,S g->g<n₀):KT S W W':=fun g _ _ _ hg _ h=>(hb.block g (hS g hg)).trans h
theorem KT.grown {row:Option Nat} (hg:W.grownBy W' row) (hX:∀X,row=some X->¬S X):KT S W W':=fun g _ _ _ hS _ h=>(hg.block g (gZ h) (fun e=>hX g e.symm hS)).trans h
theorem KT.other {X:Nat} {aj:Array Value} {T:TypeId} {fr:Nat×Nat} (hg:W.grownBy W' (some X)) (hX:W.heap[X]? =some (.cells aj T fr)) (h1:T≠9) (h2:T≠28):KT S W W':=fun g c T' f' _ hT h=>
 (hg.block g (gZ h) (fun e=>by
  cases e
  rw[hX]at h;cases h
  rcases hT with hT|hT
  ·exact h1 hT
  ·exact h2 hT)).trans h
theorem LsT.imp (h:LsT S W T s v cs n) (hT:T=9\/T=28) (k:KT S W W') (hS:∀g,S g->g<W.heap.size->S' g):LsT S' W' T s v cs n:=by
 obtain⟨h1,h2,a,c,h3,h4,h5⟩:=h;refine⟨h1,h2,a,c,h3,h4,h5.imp_right ?_⟩;rintro⟨g,o,aj,fr,e,hg,hb,h⟩;exact⟨g,o,aj,fr,e,hS g hg (gZ hb),k g aj T fr hg hT hb,h⟩
theorem sF:∀{xs:List Tr} {l:List (Array Value)},mN S W xs l->l.length=xs.length
 |[],l,h=>by rw[mN]at h;subst h;rfl
 |x::r,l,h=>by
  rw[mN]at h;obtain⟨c,l',rfl,_,_,h⟩:=h;rw[aD,aD,sF h]
theorem rL:∀{xs:List Tr} {l:List (Array Value)} {j:Nat} (_:mN S W xs l) (hj:j<xs.length) (hl:j<l.length),l[j].size=5/\TrS S W xs[j] (.agg l[j])
 |[],_,_,_,hj,_=>by simp at hj
 |x::r,l,0,h,_,_=>by
  rw[mN]at h;obtain⟨c,l',rfl,h0,h,_⟩:=h;exact⟨h0,h⟩
 |x::r,l,j+1,h,hj,hl=>by
  rw[mN]at h;obtain⟨c,l',rfl,_,_,h⟩:=h;exact rL h uGu uNw
theorem aFo:∀{xs:List Tr} {l:List (Array Value)},l.length=xs.length->(∀j (hj:j<xs.length) (hl:j<l.length),l[j].size=5/\TrS S W xs[j] (.agg l[j]))->mN S W xs l
 |[],l,h,_=>by rw[mN];exact aQ h
 |x::r,[],h,_=>by simp at h
 |x::r,c::l,h,hv=>by
  rw[mN];exact⟨c,l,rfl,(hv 0 uAy uAy).1,(hv 0 uAy uAy).2,aFo uDu fun j hj hl=>hv (j+1) uGu uNw⟩
theorem aGO:∀{xs ys:List Tr} {l m:List (Array Value)},mN S W xs l->mN S W ys m->mN S W (xs++ys) (l++m)
 |[],_,l,m,h,hy=>by rw[mN]at h;subst h;exact hy
 |x::r,ys,l,m,h,hy=>by
  rw[mN]at h;obtain⟨c,l',rfl,h0,h1,h2⟩:=h;rw[aP,aP,mN];exact⟨c,_,rfl,h0,h1,aGO h2 hy⟩
theorem aNI {x:Tr} {c:Array Value} (hc:c.size=5) (h:TrS S W x (.agg c)):mN S W [x] [c]:=by
 rw[mN];exact⟨c,[],rfl,hc,h,by rw[mN]⟩
theorem aEb {xs:List Tr} {l:List (Array Value)} (h:mN S W xs l):∀c∈l,c.size=5:=by
 intro c hc;obtain⟨j,hj,rfl⟩:=List.mem_iff_getElem.1 hc;exact(rL h (by rw[<-sF h];exact hj) hj).1
theorem aQJ (k:KT S W W') (hS:∀g,S g->g<W.heap.size->S' g) (a:Tr):∀v,TrS S W a v->TrS S' W' a v:=by
 induction a using kD with
 |h kk n t ks xs ih=>
  intro v hv;rw[TrS]at hv ⊢;obtain⟨kv,xv,css,h1,h2,h3,h4,h5,h6,h7⟩:=hv;exact⟨kv,xv,css,h1,h2,h3,h4,h5.imp (.inl rfl) k hS,h6.imp (.inr rfl) k hS,aFo (sF h7) fun j hj hl=>⟨(rL h7 hj hl).1,ih _ (aX hj) _ (rL h7 hj hl).2⟩⟩
end
section
variable {S S' : Nat → Prop} {w w' : World} {a : Tr} {v : Value} {xs : List Tr} {l : List (Array Value)}
theorem TrS.imp (h:TrS S w a v) (k:KT S w w') (hS:∀g,S g->g<w.heap.size->S' g):TrS S' w' a v:=aQJ k hS a v h
theorem TrS.kept (h:TrS S w a v) (k:KT S w w'):TrS S w' a v:=h.imp k fun _ h _=>h
theorem TrS.later (h:TrS S w a v) (hb:Below w.heap.size w w'):TrS S w' a v:=h.kept (KT.later hb)
theorem TrS.weak (h:TrS S w a v) (hS:∀g,S g->S' g):TrS S' w a v:=h.imp KT.refl fun g h _=>hS g h
theorem TrS.old (h:TrS S w a v):TrS (fun g=>S g/\g<w.heap.size) w a v:=h.imp KT.refl fun _ h h'=>⟨h,h'⟩
theorem mN.imp (h:mN S w xs l) (k:KT S w w') (hS:∀g,S g->g<w.heap.size->S' g):mN S' w' xs l:=
 aFo (sF h) fun _ hj hl=>⟨(rL h hj hl).1,(rL h hj hl).2.imp k hS⟩
theorem mN.later (h:mN S w xs l) (hb:Below w.heap.size w w'):mN S w' xs l:=h.imp (KT.later hb) fun _ h _=>h
theorem mN.weak (h:mN S w xs l) (hS:∀g,S g->S' g):mN S' w xs l:=h.imp KT.refl fun g h _=>hS g h
theorem mN.old (h:mN S w xs l):mN (fun g=>S g/\g<w.heap.size) w xs l:=h.imp KT.refl fun _ h h'=>⟨h,h'⟩
theorem LsT.cell {T:TypeId} {s n:Nat} {cs:List Value} (h:LsT S w T s v cs n) (hn:0<n):∃(g o c:Nat),v=.slice (some ⟨g,o,none⟩) n c/\S g/\∀(j:Nat) (u:Value),cs[j]? =some u->w.cell? ⟨g,o+j,none⟩=some u:=by
 obtain⟨_,_,a,c,h3,h4,⟨_,h5⟩|⟨g,o,aj,fr,rfl,hS,hb,hc⟩⟩:=h
 ·omega
 ·exact⟨g,o,c,h3,hS,fun j u hu=>aG hb (hc j u hu)⟩
theorem trS_v (a:Tr):∀v,TrS S w a v->TrV w a v:=by
 induction a using kD with
 |h k n t ks xs ih=>
  intro v hv;rw[TrS]at hv;obtain⟨kv,xv,css,h1,h2,h3,h4,h5,h6,h7⟩:=hv;have hl:=sF h7;have de:=aEb h7;rw[TrV];refine⟨kv,xv,h1,h2,h3,h4,?_,?_⟩
  ·obtain⟨_,hm,ad,c,e,_,hr⟩:=h5
   rcases hr with⟨rfl,rfl⟩|⟨g,o,aj,fr,rfl,_,hb,hc⟩
   ·rcases fN ks.length with h0|h0
    ·exact⟨none,0,0,0,e,fun h=>by omega,fun j h=>by omega,hm⟩
    ·omega
   ·refine⟨_,c,g,o,e,fun _=>rfl,fun j hj=>aG hb (hc j _ uHw),hm⟩
  ·obtain⟨_,hm,ad,c,e,_,hr⟩:=h6
   rcases hr with⟨rfl,rfl⟩|⟨g,o,aj,fr,rfl,_,hb,hc⟩
   ·rcases fN xs.length with h0|h0
    ·exact⟨none,0,0,0,e,fun h=>by omega,hm,aBR fun j hj=>by omega⟩
    ·omega
   ·refine⟨_,c,g,o,e,fun _=>rfl,hm,aBR fun j hj=> ?_⟩
    obtain⟨q1,q2⟩:=rL h7 hj hO;refine⟨css[j],q1,fun i u hu=> ?_,ih _ (aX hj) _ q2⟩;have hi:i<5:=by have:=(List.getElem?_eq_some_iff.1 hu).1;rw[bM,q1]at this;exact this
    have:=zP 5 css j i css[j] de (List.getElem?_eq_getElem hO) hi;rw[show o+j*5+i=o+(j*5+i) by omega];refine aG hb (hc _ u ?_);rw[this];simpa using hu
theorem TrS.trv (h:TrS S w a v):TrV w a v:=trS_v a v h
end
theorem aB6 {P:Program} {w:World} (t ty e:TypeId) (i:TypeInfo) (z:Value) (size bytes:Nat) (ht:P.underlying t=some (.slice e)) (hi:P.info? e=some i) (hz:i.zero=some z)
  (qd:i.size=size) (zh:i.bytes=bytes) (mr:z.cells.size=size) (de:0<size) {base:Nat}
  (v:Value) (n:Nat) (xs:List Value) (di:w.ownsRowF base e size v n xs)
  (a:Addr) (m c:Nat) (Ar:List Value) (hl:Ar.length=m*size) (Fc:∀j u,Ar[j]? =some u->w.cell? (a.add j)=some u) (h1:∀u∈Ar,u.oneCell'=true)
  (Ci:n+m<=maxLen) (eu:(n+m)*bytes<=140737488355328) (v':Value) (w':World) (o9:(Builtin.append_ #[t,t] ty #[v,.slice (some a) m c]).run P w=.ok v' w'):
  v'.ownBlock=v.ownBlock\/∃g',v'.ownBlock=some g'/\w.heap.size<=g':=by
 rcases di.2 with⟨rfl,rfl⟩|⟨g,cap,aj,fz,rfl,tz,hg,AX,NC,CY,ep,CZ⟩
 ·obtain⟨NF,Ea,r1,r2,_,_⟩:=run_append_own (P:=P) w w.heap.size t ty e i z size bytes ht hi hz qd zh mr de (.slice none 0 0) 0 xs ⟨di.1,.inl ⟨rfl,rfl⟩⟩ a m c Ar hl Fc h1 Ci eu (aA _)
  rw[o9]at r1;obtain⟨rfl,rfl⟩:=Result.ok.inj r1;rcases r2.2 with⟨h,_⟩|⟨g,cap,aj,h,hg,_⟩
  ·left
   rw[h]
  ·right
   exact⟨g,by rw[h];rfl,hg⟩
 ·subst qd
  subst zh;have Yl:n+m<=9223372036854775807:=by simp only[maxLen]at Ci;omega
  by_cases J1:n+m<=cap
  ·have u9:n*i.size+Ar.length<=aj.size:=by rw[hl,ep,<-fJ];exact cS _ J1
   have hr:=run_append_roomF (P:=P) w t ty e i ht hi g n cap aj fz hg AX a m c Ar hl Fc h1 J1 u9;rw[o9]at hr;left;rw[(Result.ok.inj hr).1];rfl
  ·have holds:∀j u,xs[j]? =some u->w.cell? ((⟨g,0,none⟩:Addr).add j)=some u:=di.cells (g:=g) rfl
   have hr:=run_append_grow (P:=P) w t ty e i z ht hi hz ⟨g,0,none⟩ n cap xs di.1 holds a m c Ar hl Fc hO hO (aF8 hO eu);rw[o9]at hr;right;exact⟨w.heap.size,by rw[(Result.ok.inj hr).1];rfl,aA _⟩
theorem aO1 {o:Oper} {a:Act} {K:Act->World->Prop} {Q:Exit->Act->World->Prop} {w:World} (t e:TypeId) (p q:Operand)
  (ho:o.op=.call {callee:=.builtin .append,args:=#[p,q],argTypes:=#[t,t]})
  {B s by_:Nat} {z v:Value} {cs ds:List (Array Value)} (hs:a.eval p=v) (hb:bW B e s v cs w) (ad:Addr) (cc m:Nat) (hm:m=ds.length) (hx:a.eval q=.slice (some ad) m cc)
  (hg:∀j u,(ds.flatMap Array.toList)[j]? =some u->w.cell? (ad.add j)=some u) (hc:∀c∈ds,c.size=s) (h1:∀c∈ds,c.all (·.oneCell')=true) (hu:Tryz.prog.underlying t=some (.slice e)) (hi:(Tryz.prog.info? e).map (fun i=>(i.zero,i.size,i.bytes))=some (some z,s,by_))
  (mr:z.cells.size=s) (de:0<s) (an:cs.length+ds.length<=1000000) (zh:by_<=1000000)
  (h:∀v' w',bW B e s v' (cs++ds) w'->w.grownBy w' v.ownBlock->(v'.ownBlock=v.ownBlock\/∃g',v'.ownBlock=some g'/\w.heap.size<=g')->K (a.put o.dst v') w'):o.wp Tryz.prog a w K Q:=by
 subst hm;obtain⟨i,K7,hz,h2,h3⟩:=dO hi;have eu:(cs.length+ds.length)*by_<=140737488355328:=by
  have:(cs.length+ds.length)*by_<=1000000*1000000:=Nat.mul_le_mul hO zh;omega
 have Lb:(ds.flatMap Array.toList).length=ds.length*s:=xH s ds hc;have bq:∀u∈ds.flatMap Array.toList,u.oneCell'=true:=fun u hu=>by
  obtain⟨c,dr,xq⟩:=List.mem_flatMap.1 hu;exact(cD.1 (h1 c dr)) u (by simpa using xq)
 obtain⟨v',w',hr,g1,g2,_⟩:=uX (P:=Tryz.prog) w B t o.type e i z s by_ hu K7 hz h2 h3 mr de v cs.length (cs.flatMap Array.toList) hb.1 ad ds.length cc (ds.flatMap Array.toList) Lb hg bq uCx eu hb.2.1;have Er:=aB6 t o.type e i z s by_ hu K7 hz h2 h3 mr de v cs.length (cs.flatMap Array.toList) hb.1 ad ds.length cc (ds.flatMap Array.toList) Lb hg bq uCx eu v' w' hr;unfold Oper.wp execOp;simp only[ho,resolve,invoke,builtin,eG,eZ,cR,iE,cA,gY,hs,hx,hr];refine h v' w' ⟨?_,aI hb.2.1 g2.size,fun x hx=> ?_⟩ g2 Er
 ·rw[aB,gN]
  exact g1
 ·rcases dL.1 hx with hx|hx
  ·exact hb.2.2 x hx
  ·exact hc x hx
theorem aLV {o:Oper} {a:Act} {K:Act->World->Prop} {Q:Exit->Act->World->Prop} {w:World} (t e:TypeId) (p q:Operand)
  (ho:o.op=.call {callee:=.builtin .append,args:=#[p,q],argTypes:=#[t,t]})
  {B s by_:Nat} {z v:Value} {cs:List (Array Value)} {c:Array Value} (hs:a.eval p=v) (hb:bW B e s v cs w) (g cc:Nat) (hx:a.eval q=.slice (some ⟨g,0,none⟩) 1 cc) {fr:Nat×Nat}
  (hg:w.heap[g]? =some (.cells c e fr)) (hc:c.size=s) (h1:c.all (·.oneCell')=true) (hu:Tryz.prog.underlying t=some (.slice e)) (hi:(Tryz.prog.info? e).map (fun i=>(i.zero,i.size,i.bytes))=some (some z,s,by_))
  (mr:z.cells.size=s) (de:0<s) (an:cs.length<=900000) (zh:by_<=1000000)
  (h:∀v' w',bW B e s v' (cs++[c]) w'->w.grownBy w' v.ownBlock->(v'.ownBlock=v.ownBlock\/∃g',v'.ownBlock=some g'/\w.heap.size<=g')->K (a.put o.dst v') w'):o.wp Tryz.prog a w K Q:=
 aO1 t e p q ho hs hb ⟨g,0,none⟩ cc 1 rfl hx (fun j u hj=>by
  have e:(⟨g,0,none⟩:Addr).add j=⟨g,j,none⟩:=by unfold Addr.add;split<;>simp_all
  rw[e];exact aG hg uGu) (fun x hx=>by simp at hx;subst hx;exact hc) (fun x hx=>by simp at hx;subst hx;exact h1) hu hi mr de uCy zh h
theorem bW.lsT {B:Nat} {e:TypeId} {s:Nat} {v:Value} {cs:List (Array Value)} {w:World} (h:bW B e s v cs w):LsT (fun g=>v.ownBlock=some g) w e s v (cs.flatMap Array.toList) cs.length:=by
 obtain⟨⟨h1,h2⟩,_,_⟩:=h;rcases h2 with⟨rfl,h2⟩|⟨g,cap,aj,fz,rfl,a2,a3,a4,a5,a6,a7,a8⟩
 ·rw[h2]at h1 ⊢
  exact⟨h1,aS _,none,0,rfl,aA _,.inl ⟨rfl,rfl⟩⟩
 ·refine⟨h1,by omega,_,cap,rfl,a5,.inr ⟨g,0,aj,fz,rfl,rfl,a3,fun j u hu=> ?_⟩⟩
  rw[<-a8]at hu;rw[eA];have hj:=(List.getElem?_eq_some_iff.1 hu).1;rw[List.getElem?_take_of_lt (by rw[bQ]at hj;omega)]at hu;simpa using hu
end Go.Proofs.YthmfgidbcghnfaaGreatDoor
namespace Go.Proofs.YthmfgidbcghnfaaGreatDoor
open Go.RowKit
theorem aP8 {rc mc:Array Value} {d:Value} {n:Nat} (hr:rc.all (·.oneCell')=true) (hm:mc.all (·.oneCell')=true) (hd:d.oneCell'=true):(jQ rc mc d n).all (·.oneCell')=true:=by
 rw[jQ,Array.all_append,Array.all_append,hr,hm];show((true&&true)&&(#[d,.int .i64 (n:Int)]:Array Value).all (·.oneCell'))=true;rw[lF,lF,cD];intro u hu;simp only[List.mem_toArray,bL,gL,uS]at hu;rcases hu with rfl|rfl
 ·exact hd
 ·rfl
theorem aP9 {rc mc:Array Value} (hr:rc.size=4) (hm:mc.size=6) (d0 d:Value) (n0 n:Nat):((jQ rc mc d0 n0).toList.take 10++(#[d,.int .i64 (n:Int)]:Array Value).toList++(jQ rc mc d0 n0).toList.drop (10+(#[d,.int .i64 (n:Int)]:Array Value).size)).toArray=jQ rc mc d n:=by
 have h1:(rc++mc).toList.length=10:=by simp[hr,hm]
 have h2:(jQ rc mc d0 n0).toList=(rc++mc).toList++[d0,.int .i64 (n0:Int)]:=by simp[jQ]
 rw[h2,<-h1,nA];have h3:(#[d,.int .i64 (n:Int)]:Array Value).size=2:=rfl;have h4:List.drop ((rc++mc).toList.length+2) ((rc++mc).toList++[d0,.int .i64 (n0:Int)])=[]:=kY uCy;rw[h3,h4];simp[jQ]
theorem aG2 {rc mc xi:Array Value} (hr:rc.size=4) (o9:xi.size=4) (d:Value) (n:Nat):((jQ rc mc d n).toList.take 0++xi.toList++(jQ rc mc d n).toList.drop (0+xi.size)).toArray=jQ xi mc d n:=by
 have h2:(jQ rc mc d n).toList=rc.toList++(mc.toList++[d,.int .i64 (n:Int)]):=by simp[jQ]
 have h3:0+xi.size=rc.toList.length:=by simp[hr,o9]
 rw[h2,h3,oY];simp[jQ]
theorem aRL {rc mc xj:Array Value} (hr:rc.size=4) (hm:mc.size=6) (L7:xj.size=6) (d:Value) (n:Nat):((jQ rc mc d n).toList.take 4++xj.toList++(jQ rc mc d n).toList.drop (4+xj.size)).toArray=jQ rc xj d n:=by
 have h2:(jQ rc mc d n).toList=rc.toList++(mc.toList++[d,.int .i64 (n:Int)]):=by simp[jQ]
 have h4:(4:Nat)=rc.toList.length:=by simp[hr]
 have h3:4+xj.size=(rc.toList++mc.toList).length:=by simp[hr,hm,L7]
 have h5:List.take 4 (rc.toList++(mc.toList++[d,.int .i64 (n:Int)]))=rc.toList:=by rw[h4,nA]
 rw[h2,h3,h5,<-bG,oY];simp[jQ]
def aNd (S:Nat->Prop) (w:World) (rc mc:Array Value) (d0:Value) (N0:Nat) (lr:List Cel) (sd:Nat) (nn:Int) (lm:List Ent) (q9:Nat) (lb:Array Value):Prop:=
 ∀W X,Below w.heap.size w W->w.heap.size<=X->W.heap[X]? =some (.cells (jQ rc mc d0 N0) 140 (0,0))->Calls Tryz.prog q9 (#[.pointer (some ⟨X,0,none⟩)]++lb) W fun r W'=>r=.returned (.tuple #[])/\∃xi xj,W'.heap[X]? =some (.cells (jQ xi xj d0 N0) 140 (0,0))/\cW (fun g=>(S g/\g<w.heap.size)\/W.heap.size<=g) W' xi lr/\fG (fun g=>(S g/\g<w.heap.size)\/W.heap.size<=g) W' sd nn lm xj/\∃W1,Below W.heap.size W W1/\iL X W1 W'
theorem aIV {S:Nat->Prop} (w:World) (x:Cel) (b:Nat) (hp:x.p=some ⟨b,0,none⟩) (rc mc:Array Value) (d0:Value) (N0:Nat) (fr:Nat×Nat) (jf:w.heap[b]? =some (.cells (jQ rc mc d0 N0) 140 fr)) (zt:rc.size=4) (yo:mc.size=6)
    (DA:rc.all (·.oneCell')=true) (DB:mc.all (·.oneCell')=true) (U0:d0.oneCell'=true) (lr:List Cel) (sd:Nat) (nn:Int) (lm:List Ent) (q9:Nat) (lb:Array Value) (Am:∀args w,(callFunc q9 args).run Tryz.prog w=.ok (.enter q9 args) w)
    (Ih:aNd S w rc mc d0 N0 lr sd nn lm q9 lb) (da:Option Addr) (dc:Nat) (l:List Int) (n:Nat) (hl:l.length<=100) (hn:n<=100000):
    Calls Tryz.prog 196 #[.agg (aL x),.agg #[.slice da l.length dc,.int .i64 (n:Int)],.func (.func q9) #[] lb] w fun r w'=>Below w.heap.size w w'/\
      ((63<l.length/\r=.returned (.tuple #[.agg (aL gO),.int .i64 7]))\/(l.length<=63/\16383<n/\r=.returned (.tuple #[.agg (aL gO),.int .i64 8]))\/
       (l.length<=63/\n<=16383/\∃X xi xj,r=.returned (.tuple #[.agg (aL ⟨x.k,x.n,x.t,some ⟨X,0,none⟩⟩),.int .i64 0])/\w.heap.size<=X/\w'.heap[X]? =some (.cells (jQ xi xj (.slice da l.length dc) n) 140 (0,0))/\cW (fun g=>S g\/w.heap.size<=g) w' xi lr/\fG (fun g=>S g\/w.heap.size<=g) w' sd nn lm xj)):=by
  obtain⟨w1,ag⟩:∃w1,((w.alloc (.cells (aL x) 37)).alloc (.cells #[.slice da l.length dc,.int .i64 (n:Int)] 138)).alloc (.cells #[.int .i64 0,.int .i64 0,.string ⟨#[]⟩,.pointer none] 37)=w1:=⟨_,rfl⟩
  obtain⟨af,ai,wm,aw,al⟩:=dF ag;have HX1:=iH ai;have tq:=iH wm;have bl:=iH aw;have HB1:=iH af;have HS1:=iH al;have Mo:=iH (aGR w1 da l.length dc (n:Int) hO);have HN:=iH (And.intro hl hn);have qw:(l.length:Int)<=100:=by omega
  have nb:(n:Int)<=100000:=by omega
  have Lc:(0:Int)<=(n:Int):=by omega
  have Ez:Hid ((aL x)[3]? =some (.pointer (some ⟨b,0,none⟩))):=by show _=_;rw[<-hp];rfl
  have j7:=iH (kW af jf);have HZ:=iH (And.intro zt (And.intro yo (aP8 (n:=N0) DA DB U0)));have qi:=iH Ih;clear ai wm aw al af hl hn jf zt yo DA DB U0 Ih;rcases eB 63 l.length with Ci|Ci
  ·have c1:((l.length+1:Nat):Int)>64:=by omega
   have HH:=iH Ci;clear Ci;go_enter Tryz.func196,Tryz.ntmps196;go_upto_region 1 with fail
   clear ag;go_wp2_with (first
     |(refine aW rfl 138 _ rfl (w.heap.size+1) rfl 138 _ _ _ tq.out Tryz.underlying138 rfl dP ?_)
     |(go_at_call 62;refine Mo.out.mono ?_;rintro r w2 ⟨rfl,ah⟩;have aq:=iH (tW HB1.out ah);have bo:=iH (kW ah bl.out);clear ah)
     |(refine aV rfl 37 _ _ rfl (w.heap.size+2) #[.int .i64 0,.int .i64 0,.string ⟨#[]⟩,.pointer none] rfl rfl 37 _ bo.out aF rfl uAx ?_;intro w5 h5 k5))
   exact aN (aR rfl _ _ (w.heap.size+2) 37 _ (0,0) _ rfl h5 Tryz.underlying37 rfl aF) rfl ⟨aq.out.trans (k5.below hO),.inl ⟨HH.out,rfl⟩⟩
  have c1:¬((l.length+1:Nat):Int)>64:=by omega
  have DC:=iH Ci;clear Ci;rcases eB 16383 n with Gt|Gt
  ·have c2:(n:Int)+1>16384:=by omega
   have HH:=iH Gt;clear Gt;go_enter Tryz.func196,Tryz.ntmps196;go_upto_region 1 with fail
   clear ag;have cn:w1.cell? ⟨w.heap.size+1,1,none⟩=some (.int .i64 (n:Int)):=aG tq.out rfl;go_wp2_with (first
     |(refine aW rfl 138 _ rfl (w.heap.size+1) rfl 138 _ _ _ tq.out Tryz.underlying138 rfl dP ?_)
     |(go_at_call 62;refine Mo.out.mono ?_;rintro r w2 ⟨rfl,ah⟩;have JI:=dQ cn ah;have aq:=iH (tW HB1.out ah);have bo:=iH (kW ah bl.out);clear ah)
     |(refine aV rfl 37 _ _ rfl (w.heap.size+2) #[.int .i64 0,.int .i64 0,.string ⟨#[]⟩,.pointer none] rfl rfl 37 _ bo.out aF rfl uAx ?_;intro w5 h5 k5))
   exact aN (aR rfl _ _ (w.heap.size+2) 37 _ (0,0) _ rfl h5 Tryz.underlying37 rfl aF) rfl ⟨aq.out.trans (k5.below hO),.inr (.inl ⟨DC.out,HH.out,rfl⟩)⟩
  have c2:¬(n:Int)+1>16384:=by omega
  have JO:=iH Gt;clear Gt;go_enter Tryz.func196,Tryz.ntmps196;go_upto_region 1 with fail
  clear ag;have cn:w1.cell? ⟨w.heap.size+1,1,none⟩=some (.int .i64 (n:Int)):=aG tq.out rfl;have cp:w1.cell? ⟨w.heap.size,3,none⟩=some (.pointer (some ⟨b,0,none⟩)):=aG HX1.out Ez.out;go_upto_region 6 with(first
    |(refine aW rfl 138 _ rfl (w.heap.size+1) rfl 138 _ _ _ tq.out Tryz.underlying138 rfl dP ?_)
    |(go_at_call 62;refine Mo.out.mono ?_;rintro r w2 ⟨rfl,ah⟩;replace cn:=dQ cn ah;replace cp:=dQ cp ah;have aq:=iH (tW HB1.out ah);have HX2:=iH (kW ah HX1.out);have Ho:=iH (kW ah tq.out);have bo:=iH (kW ah bl.out);have du:=iH (kW ah j7.out);have fu:Hid (w.heap.size+3<=w2.heap.size):=(by have:=HS1.out;have:=ah.size;show _<=_;omega);clear ah)
    |(refine aW rfl 140 _ rfl b rfl 140 _ _ _ du.out Tryz.underlying140 rfl (by rw[nU HZ.out.1 HZ.out.2.1];exact aCN) ?_)
    |(refine aV rfl 140 _ _ rfl w2.heap.size (jQ rc mc d0 N0) rfl rfl 140 _ (aC _ _) (by rw[nU HZ.out.1 HZ.out.2.1];exact aCN) (by rw[nU HZ.out.1 HZ.out.2.1];rfl) HZ.out.2.2 ?_;intro w4 h4 k4))
  have ha:=Below.newly' w2 (.cells #[.int .i64 0,.int .i64 0,.slice none 0 0,.slice none 0 0,.int .u64 0,.int .i64 0,.int .i64 0,.int .u32 0,.slice none 0 0,.slice none 0 0,.slice none 0 0,.int .i64 0] 140);have bg:=iH ((tW aq.out ha).trans (k4.below aq.out.size));have cw:=fu.out;have bw:=iH (k4.other (kW ha HX2.out) hO);have DD:=iH (k4.other (kW ha Ho.out) hO);have gg:=iH (k4.other (kW ha bo.out) hO);obtain⟨X,hX⟩:∃X,X=w2.heap.size:=⟨_,rfl⟩
  rw[<-hX]at h4 cw ⊢;have jr:=iH cw;have Dk:=iH (qi.out w4 X bg.out hO h4);have Oq:Hid (X<w4.heap.size):=(gZ h4)
  clear ha cw h4 k4 HX1 tq bl HX2 Ho bo du j7 qi cn cp hX Mo;go_upto_region 7 with(first
    |((with_reducible refine Dk.out.mono ?_);rintro r w5 ⟨rfl,xi,xj,h5,yf,Pu,W1,ay,k5⟩))
  have DE:=Oq.out;have U1:=jr.out;have zu:∀(g:Nat) (o:Obj),g<w4.heap.size->g≠X->w4.heap[g]? =some o->w5.heap[g]? =some o:=fun g o hg bn h=>k5.other ((ay.block g hg).trans h) bn
  have fg:=iH (zu _ _ hO hO bw.out);have Mp:=iH (zu _ _ hO hO DD.out);have gk:=iH (zu _ _ hO hO gg.out);have JP:=iH h5;have sa:=iH (And.intro yf.size Pu.size);have nu:=iH yf;have JQ:=iH Pu;have Q0:=iH ((tW bg.out ay).trans (k5.below hO));have Jo:Hid (w4.heap.size<=w5.heap.size):=by have:=ay.size;rw[<-k5.size]at this;exact this
  clear DE U1 zu h5 yf Pu ay k5 Dk bw DD gg;have U2:Hid (w5.rangeAt w.heap.size 0 [.int .i64 x.k,.int .i64 x.n,.string x.t]):=fun j u hu=>aG fg.out (by
    have hj:j<3:=(List.getElem?_eq_some_iff.1 hu).1
    match j,hj with
    |0,_=>exact hu
    |1,_=>exact hu
    |2,_=>exact hu)
  go_wp2_with (first
    |(refine aW rfl 138 _ rfl (w.heap.size+1) rfl 138 _ _ _ Mp.out Tryz.underlying138 rfl dP ?_)
    |(refine aBY rfl 138 _ _ rfl X 10 #[.slice da l.length dc,.int .i64 (n:Int)] rfl rfl 140 _ JP.out dP (by rw[nU sa.out.1 sa.out.2];exact aA _) uAx _ (aP9 sa.out.1 sa.out.2 _ _ _ _) ?_;intro w6 h6 k6;have JR:=iH h6;have np:=iH k6;clear h6 k6)
    |(refine cO rfl 34 _ rfl w.heap.size 0 rfl [.int .i64 x.k,.int .i64 x.n,.string x.t] _ (fun j u hu=>aG (np.out.other fg.out uXu) (by
        have hj:j<3:=(List.getElem?_eq_some_iff.1 hu).1
        match j,hj with
        |0,_=>exact hu
        |1,_=>exact hu
        |2,_=>exact hu)) Tryz.underlying34 rfl aAO ?_)
    |(refine aV rfl 37 _ _ rfl (w.heap.size+2) (aL ⟨x.k,x.n,x.t,some ⟨X,0,none⟩⟩) rfl rfl 37 _ (np.out.other gk.out uXu) aF rfl (cE _) ?_;intro w7 h7 k7))
  have DE:=Oq.out;have U1:=jr.out;have Hh:=Jo.out;have ei:∀g:Nat,((S g/\g<w.heap.size)\/w4.heap.size<=g)->g≠X/\g≠w.heap.size+2:=fun g hg=>by rcases hg with⟨_,hg⟩|hg<;>constructor<;>omega
  have hq:Kq (fun g=>(S g/\g<w.heap.size)\/w4.heap.size<=g) w5 w7:=fun g o hg h=>k7.other (np.out.other h (ei g hg).1) (ei g hg).2
  exact aN (aR rfl _ _ (w.heap.size+2) 37 _ (0,0) _ rfl h7 Tryz.underlying37 rfl aF) rfl ⟨(Q0.out.trans (np.out.below hO)).trans (k7.below hO),.inr (.inr ⟨DC.out,by have:=JO.out;omega,X,xi,xj,rfl,by omega,k7.other JR.out hO,
    nu.out.imp hq fun g hg _=>hg.elim (fun h=>.inl h.1) (fun h=>.inr hO),JQ.out.imp hq.kp fun g hg _=>hg.elim (fun h=>.inl h.1) (fun h=>.inr hO)⟩)⟩
end Go.Proofs.YthmfgidbcghnfaaGreatDoor
