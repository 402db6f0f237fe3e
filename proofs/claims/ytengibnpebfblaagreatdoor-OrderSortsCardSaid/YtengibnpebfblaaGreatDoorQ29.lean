import Derived.Test.YtengibnpebfblaaGreatDoorQ0
import Derived.Test.YtengibnpebfblaaGreatDoorQ25
import Derived.Test.YtengibnpebfblaaGreatDoorQ26
import Derived.Test.YtengibnpebfblaaGreatDoorQ28
set_option maxRecDepth 1000000
set_option maxHeartbeats 8000000
set_option linter.unusedSimpArgs false
namespace Go.Proofs.YtengibnpebfblaaGreatDoor
open Go.RowKit Go.Shelf
attribute [local go_sem] fK
abbrev U8 (T:TypeId):Prop:=T=5
abbrev U8s (T:TypeId):Prop:=T=5\/T=129
theorem zT:vD U8s:=⟨by decide,by decide,by decide,by decide,by decide⟩
section
variable {Ts Ts' : TypeId → Prop} {n₀ Y Z X : Nat} {w A A' : World}
theorem KW.mono (h:KW Ts n₀ Y w A) (hT:∀T,Ts T->Ts' T):KW Ts' n₀ Y w A:=⟨h.1,h.2.1,fun k cs T fr e ht=>h.2.2.1 k cs T fr e (fun h=>ht (hT _ h)),h.2.2.2⟩
theorem KW.ik (h:KW Ts n₀ 0 w A) (k:IKW Ts' Y A A') (hw:w.heap.size<=Y) (hn:n₀<=Y):KW Ts n₀ 0 w A':=
 ⟨h.1.trans (k.2.1.mono hn),aG h.2.1 k.1,fun i cs T fr e ht=>by
  have hi:=(gZ e)
  exact(k.2.1.block i uAu).trans (h.2.2.1 i cs T fr e ht),fun i o hi e ho=>by
  have hi':=(gZ e)
  exact(k.2.1.block i uAu).trans (h.2.2.2 i o hi e ho)⟩
theorem KW.new (h:KW Ts n₀ 0 w A) (hg:A.grownBy A' (some X)) (hX:w.heap.size<=X) (hn:n₀<=w.heap.size):KW Ts n₀ 0 w A':=
 ⟨h.1.trans ((aY _ A).grown hg (aG hn h.2.1) (fun k e=>by cases e;omega)),aG h.2.1 hg.size,fun i cs T fr e ht=>by
  have hi:=(gZ e)
  have h1:=h.2.2.1 i cs T fr e ht;exact(hg.block i (gZ h1) (fun e=>by have:=aN e;omega)).trans h1,fun i o hi e ho=>by
  have hi':=(gZ e)
  have h1:=h.2.2.2 i o hi e ho;exact(hg.block i (gZ h1) (fun e=>by have:=aN e;omega)).trans h1⟩
end
theorem aL8 (l:List UInt8):kb ⟨l.toArray⟩=l:=by simp[kb]
theorem aGH {S:Nat->Prop} {w V:World} {a:Tr} {x:Cel} {X:Nat} {T:TypeId} {fr:Nat×Nat} (hv:VAt S w a x) (h:V.heap[X]? =some (.cells (aX x) T fr)):V.rangeAt X 0 [.int .i64 a.k,.int .i64 a.n,.string a.t]:=fun j u hu=>aK h (by
 have hj:j<3:=(List.getElem?_eq_some_iff.1 hu).1;rw[<-hv.k,<-hv.n,<-hv.t]at hu
 match j,hj with
 |0,_=>exact hu
 |1,_=>exact hu
 |2,_=>exact hu)
theorem nV {k:Int}:∀{xs:List Tr} {ks:List ByteArray} {q:Nat} (hq:q<xs.length),eP k (ks.take (q+1)) (xs.take (q+1))=eP k (ks.take q) (xs.take q)++((if k=5 then wF (ks.getD q ⟨#[]⟩)else[])++dG xs[q])
 |[],_,_,h=>by simp at h
 |x::r,ks,0,_=>by
  cases ks<;>simp[eP]
 |x::r,ks,q+1,h=>by
  have h':q<r.length:=by simpa using h
  have ih:=nV (k:=k) (ks:=ks.tail) h';cases ks with
  |nil=>
   simp only[List.take_nil,fP,eP,List.tail_nil,List.tail_cons,List.headD_nil,aB3,bN]at ih ⊢;rw[ih];simp
  |cons y ys=>
   simp only[fP,eP,List.tail_cons,List.headD_cons,aB3,bN]at ih ⊢;rw[ih];simp
theorem tO {k:Int}:∀{xs:List Tr} {ks:List ByteArray} (n:Nat),(eP k (ks.take n) (xs.take n)).length<=(eP k ks xs).length
 |[],ks,n=>by simp[eP]
 |x::r,ks,0=>by simp[eP]
 |x::r,ks,n+1=>by
  have ih:=tO (k:=k) (xs:=r) (ks:=ks.tail) n;cases ks with
  |nil=>
   simp only[List.take_nil,fP,eP,List.tail_nil,List.headD_nil,aD]at ih ⊢;omega
  |cons y ys=>
   simp only[fP,eP,List.tail_cons,List.headD_cons,aD]at ih ⊢;omega
theorem fW.low {B:Nat} {w w':World} (h:fW w) (hB:1<B) (hb:Below B w w'):fW w':=fun j hj=>(hb.cell (p:=⟨1,j,none⟩) hB).trans (h j hj)
def vC (a:Tr):Prop:=∀(w:World) (x:Cel) (B:Nat) (v:Value) (l:List UInt8),dW a->VAt (fun g=>g<B) w a x->fW w->1<B->Buf B v l w->l.length+(dG a).length<=1000000000->
 Calls Tryz.prog 71 #[.agg (aX x),v] w fun r w'=>∃v',r=.returned v'/\Buf B v' (l++dG a) w'/\KW U8 B 0 w w'
theorem aGe (a:Tr) (h3:a.k<=3):vC a:=by
 intro w x B v l ha hv hT hTB hbf hlen;have hkt:dG a=kX (scT a.k a.n a.t):=by
  cases a with
  |nd k n t ks xs=>rw[dG];exact if_pos h3
 rw[hkt]at hlen ⊢;obtain⟨a0,c0,rfl⟩:=hbf.len;obtain⟨w1,hw1⟩:∃w1,(w.alloc (.cells (aX x) 35)).alloc (.cells #[.slice a0 l.length c0] 129)=w1:=⟨_,rfl⟩
 obtain⟨hb1,hx1,hy1,hs1⟩:=eR hw1;have HX1:=iH hx1;have HB1:=iH hb1;have HC1:=iH (And.intro (show w1.cell? ⟨w.heap.size+1,0,none⟩=some (.slice a0 l.length c0)from aK hy1 rfl) (aGH hv hx1));have HKA:=iH (oE w1 x);rw[hv.k]at HKA;have HSK:=iH (fun W=>aKh a.k a.n a.t W (aBS a ha.1.1|>nE.1|>.1) (aG (eT.1 ha.2).1 uAv));obtain⟨ky,hky⟩:∃ky,ky=kX (scT a.k a.n a.t):=⟨_,rfl⟩
 rw[<-hky]at HSK hlen ⊢;have HBF:=iH (fun W (hb:Below w1.heap.size w1 W)=>hbf.later (tW hb1 hb));have HKL:Hid (l.length+(⟨ky.toArray⟩:ByteArray).size<=140737488355328):=by show _<=_;simp only[ByteArray.size,cA];omega
 have HBW:=iH hbf.2;have n4:¬a.k=4:=by omega
 have n5:¬a.k=5:=by omega
 have n6:¬a.k=6:=by omega
 clear hx1 hy1 hb1 hs1 ha hv hT hTB hbf hlen hkt hky;go_enter Tryz.func71,Tryz.ntmps71;go_upto_region 1 with fail
 clear hw1;go_upto_region 2 with(first
  |(refine bR rfl 35 _ rfl w.heap.size rfl 35 _ _ _ HX1.out Tryz.underlying35 rfl aR ?_)
  |(go_at_call 44;refine HKA.out.mono ?_;rintro r w2 ⟨rfl,hb2⟩;have HB2:=iH hb2;clear hb2))
 have HKS:Hid (∀V,Below w1.heap.size w1 V->V.cell? ⟨w.heap.size+1,0,none⟩=some (.slice a0 l.length c0)/\V.rangeAt w.heap.size 0 [.int .i64 a.k,.int .i64 a.n,.string a.t]):=fun V hV=>⟨gS HC1.out.1 hV,qG HC1.out.2 hV⟩
 have HW:Hid (Below w1.heap.size w1 w2.drew):=HB2.out.trans ((bE w2).mono HB2.out.size);refine bL (S:=(fun V=>V.cell? ⟨w.heap.size+1,0,none⟩=some (.slice a0 l.length c0)/\V.rangeAt w.heap.size 0 [.int .i64 a.k,.int .i64 a.n,.string a.t])) [4,5] hO uAw (fun hHeld=> ?_);refine tkL 0 9 (h:=?_);refine tkL 1 10 (h:=?_);(try simp only[pq]);refine tyL 2 11 (hy:=bT uAz 32 _ rfl w.heap.size 0 rfl #[.int .i64 a.k,.int .i64 a.n,.string a.t] _ (fun w hw=>hw.2) Tryz.underlying32 rfl (by exact aAl)) (h:=?_);(try simp only[pq]);refine tkO 3 (some 12) (h:=fun K hK=> ?_);go_simp;go_at_call 101;(with_reducible refine(HSK.out _).mono ?_);rintro r w3 ⟨rfl,hb⟩;replace HW:=iH (tW HW.out hb);clear hb;dsimp only;refine hK.out _ _ uAw (fun hHeld=> ?_);clear hK K;(try simp only[pq]);refine tkU 4 (some 13) (h:=fun K hK=> ?_);refine aEu _ _ rfl (B:=B) (l:=l) rfl (HBF.out _ HW.out) _ rfl (by exact HKL.out) ?_;intro v' w4 h4 hg4;refine hK.out _ _ ?_;clear hK K;(try simp only[pq]);refine tkU 5 (some 4) (h:=fun K hK=> ?_);go_simp;refine hK.out _ _ ?_;clear hK K;(try simp only[pq]);refine bK hO ?_ _;clear hHeld;have HB4:=iH h4;have HG4:=iH hg4;clear h4 hg4;go_wp2_with fail
 go_ret;have hbw:=HBW.out;have hb3:=tW HB1.out HW.out;have hr:=HB4.out;rw[aL8]at hr;exact⟨_,rfl,hr,(KW.below hb3 hbw).trans ((HBF.out _ HW.out).kw HG4.out (aE _) rfl)⟩
theorem aHh (a:Tr) (hk:a.k=4) (ih:∀y∈a.xs,vC y):vC a:=by
  intro w x B v l ha hv hT hTB hbf hlen;have hkt:dG a=bt8 (a.k+1)::(eP a.k a.ks a.xs++[0]):=by
    cases a with
    |nd k n t ks xs=>rw[dG];exact if_neg (by have h:k=4:=hk;omega)
  rw[hkt]at hlen ⊢;obtain⟨a0,c0,rfl⟩:=hbf.len;obtain⟨w1,hw1⟩:∃w1,(w.alloc (.cells (aX x) 35)).alloc (.cells #[.slice a0 l.length c0] 129)=w1:=⟨_,rfl⟩
  obtain⟨hb1,hx1,hy1,hs1⟩:=eR hw1;have hbw:=hbf.2;have hk1:Boxed w1 (w.heap.size+1) 129 (.slice a0 l.length c0):=hy1;have HX1:=iH hx1;have HB1:=iH hb1;have HS1:=iH hs1;have HK1:=iH hk1;have HKA:=iH (oE w1 x);rw[hv.k,hk]at HKA;have HPA:=iH (fun W=>cY.1 (oO 5 x W));have hlen':l.length+1<=140737488355328:=by simp only[aL]at hlen;omega
  have HBF:=iH (fun W (hb:Below w1.heap.size w1 W)=>hbf.later (tW hb1 hb));clear hx1 hy1 hb1 hk1;refine(cY (n:=5)).1 ?_;refine eW Tryz.func71 rfl trivial ?_ rfl;refine gH.2 ?_;simp only[Tryz.ntmps71,cA,aL,bG,Nat.reduceAdd,Nat.reduceSub,bY,bW,cM,cD,bD,bC];go_upto_region 1 with fail
  clear hw1;go_upto_region 9 with(first
    |(refine bR rfl 35 _ rfl w.heap.size rfl 35 _ _ _ HX1.out Tryz.underlying35 rfl aR ?_)
    |(go_at_call 44;refine HKA.out.mono ?_;rintro r w2 ⟨rfl,hb2⟩;have HB2:=iH hb2;have hk2:Boxed w2 (w.heap.size+1) 129 (.slice a0 l.length c0):=(hb2.block _ HK1.out.lt).trans HK1.out;have ck2:=hk2.cell;have HK2:=iH hk2;have HN2:=iH (Below.newly' w2 (.cells #[.int .u8 5] 5));clear hk2 hb2)
    |(at_builtin;go_loud (refine zL rfl (.tmp 16) (.tmp 17) rfl rfl (HBF.out _ HB2.out) [5] _ rfl 1 1 rfl rfl (by exact hlen') ?_)
      intro v3 w3 h3 hg3;obtain⟨a3,c3,rfl⟩:=h3.len;have hk3:Boxed w3 (w.heap.size+1) 129 (.slice a0 l.length c0):=((HBF.out _ HB2.out).later HN2.out).keepsT hg3 uAv ((HN2.out.block _ HK2.out.lt).trans HK2.out);have ck3:=hk3.cell;have fk3:=hk3.frozen;have HK3:=iH hk3;have HF3:=iH h3;have HG3:=iH hg3;clear h3 hg3 hk3))
  have hlt1:=HS1.out;obtain⟨v3,hv3⟩:∃v3,v3=Value.slice a3 (l.length+1) c3:=⟨_,rfl⟩
  have hf3:Buf B v3 (l++[5]) w3:=by have h:=HF3.out;rw[aD]at h;rw[hv3];exact h
  obtain⟨w4,hw4⟩:∃w4,w4=w3.setCell ⟨w.heap.size+1,0,none⟩ v3:=⟨_,rfl⟩
  have hg4:w3.grownBy w4 (some (w.heap.size+1)):=by rw[hw4];exact eE w3 _ _
  have hK4:Boxed w4 (w.heap.size+1) 129 v3:=by rw[hw4];exact HK3.out.set _
  have hf4:Buf B v3 (l++[5]) w4:=hf3.grown hg4 (hf3.ne_box HK3.out uAv);have hb12:Below w.heap.size w (w2.alloc (.cells #[.int .u8 5] 5)):=(tW HB1.out HB2.out).trans (HN2.out.mono (aG HB1.out.size HB2.out.size));have hbn:=(HBF.out _ HB2.out).later HN2.out;have hkw4:KW U8 B 0 w w4:=((KW.below hb12 hbw).trans (hbn.kw (Ts:=U8) HG3.out (aE _) rfl)).new hg4 uAu hbw;have hx3:w3.heap[w.heap.size]? =some (.cells (aX x) 35 (0,0)):=hbn.keepsT HG3.out uAv ((HN2.out.block _ uHu).trans (kW HB2.out HX1.out));have HX4:=iH ((hg4.block _ (gZ hx3) uBu).trans hx3);have hlen3:w.heap.size+2<=w4.heap.size:=by have h1:=HB2.out.size;have h2:=HN2.out.size;have h3:=HG3.out.size;have h4:=hg4.size;omega
  rw[<-hv3,<-hw4];clear hv3 hw4 hg4 hf3 hb12 hbn hx3 HF3 HG3 HK3 HX1 HK1 HB2 HK2 HN2 HBF ck2 ck3 fk3 HKA;go_wp2_with (first
    |(refine bR rfl 35 _ rfl w.heap.size rfl 35 _ _ _ HX4.out Tryz.underlying35 rfl aR ?_)
    |(go_at_call 45;(with_reducible refine(HPA.out _).mono ?_);rintro r w5 ⟨rfl,rfl⟩))
  obtain⟨w5,hw5⟩:∃w5,w5=w4.alloc (.cells (aX x) 35):=⟨_,rfl⟩
  obtain⟨Q,hQ⟩:∃Q,Q=w4.heap.size:=⟨_,rfl⟩
  have hb5:Below w4.heap.size w4 w5:=by rw[hw5];exact Below.newly' _ _
  have hx5:w5.heap[Q]? =some (.cells (aX x) 35 (0,0)):=by rw[hw5,hQ];exact aF _ _
  have hs5:w5.heap.size=Q+1:=by rw[hw5,hQ];simp
  have hK5:Boxed w5 (w.heap.size+1) 129 v3:=(hb5.block _ hK4.lt).trans hK4;have hf5:=hf4.later hb5;have hkw5:KW U8 B 0 w w5:=hkw4.trans (KW.below hb5 uAu);have hT5:fW w5:=fun j hj=>(hkw5.1.cell (p:=⟨1,j,none⟩) hTB).trans (hT j hj)
  have hQw:w.heap.size+2<=Q:=by omega
  rw[<-hw5,<-hQ];clear hw5 hb5 hK4 hf4 hkw4 hQ HX4 hlen3;obtain⟨la,hla,hseq⟩:=rU zT Q B a x ha w5 uAu hx5 (hv.low hkw5.1) hT5;have hll:=fG hla;refine(gH (n:=5)).1 ?_;refine kJ (n₀:=B) uAu (aAr U8s B) (gf:=77) (lb:=#[.pointer (some ⟨Q,0,none⟩)]) rfl (lX Tryz.func77 hO rfl)
    hseq (fun _=>rfl)
    (fun(pre:List (Stp×Cel)) V=>((∃kv,Boxed V (w.heap.size+1) 129 kv/\Buf B kv (l++bt8 (a.k+1)::eP a.k (a.ks.take pre.length) (a.xs.take pre.length)) V)/\KW U8 B 0 w V)/\Below B w5 V)
    (fun s A B' hrow hs hg hr=>by
      obtain⟨⟨⟨kv,h1,h2⟩,h3⟩,h4⟩:=hs;have hsz:w5.heap.size<=A.heap.size:=h4.size;have hI:IKW U8s w5.heap.size A B':=mM hg hsz (aE _) hr;exact⟨⟨⟨kv,hI.2.2 _ _ _ _ h1 (.inr rfl),h2.ikw hI (.inl rfl)⟩,h3.ik hI uAu uAu⟩,h4.trans (hI.2.1.mono uAu)⟩)
    (fun s A B' h hb=>by
      obtain⟨⟨⟨kv,h1,h2⟩,h3⟩,h4⟩:=h;exact⟨⟨⟨kv,hb.2.2 _ _ _ _ h1 (.inr rfl),h2.ikw hb (.inl rfl)⟩,h3.ik hb uAu uAu⟩,h4.trans (hb.2.1.mono uAu)⟩)
    (fun s A B' h hb=>by
      obtain⟨⟨⟨kv,h1,h2⟩,h3⟩,h4⟩:=h;have hsz:w5.heap.size<=A.heap.size:=h4.size;exact⟨⟨⟨kv,(hb.block _ h1.lt).trans h1,h2.later hb⟩,h3.trans (KW.below hb uAu)⟩,h4.trans (hb.mono uAu)⟩)
    ⟨⟨⟨v3,hK5,by rw[hk,show bt8 (4+1)=5 from by decide,bG,eB,eB,eP];exact hf5⟩,hkw5⟩,aY _ _⟩
    (fun e b V=>V.heap[b]? =some (.cells (rP e.1) 67 (0,0))/\V.heap[b+1]? =some (.cells (aX e.2) 35 (0,0)))
    (fun e b A l o o' h1 h2 h=>⟨by rw[cF (fun e=>by rw[e,h1]at h;cases h.1;cases h2)];exact h.1,by rw[cF (fun e=>by rw[e,h1]at h;cases h.2;cases h2)];exact h.2⟩)
    (fun h hn=>KW.below h hn)
    (fun e' b'=>{tmps:=#[.agg (aX x),.slice a0 l.length c0,.pointer (some ⟨w.heap.size,0,none⟩),.pointer (some ⟨w.heap.size+1,0,none⟩),.slice none 0 0,.pointer (some ⟨b',0,none⟩),.pointer (some ⟨b'+1,0,none⟩),.agg (aX x),.int .i64 4,undef,undef,undef,undef,undef,.bool true,.bool true,.slice a0 l.length c0,.slice (some ⟨w2.heap.size,0,none⟩) 1 1,v3,undef,undef,undef,undef,undef,undef,undef,undef,undef,undef,.agg (aX x),.func (.func 77) #[] #[.pointer (some ⟨Q,0,none⟩)],.agg (rP e'.1),.agg (aX e'.2),undef,undef,undef,undef,undef,undef,undef,undef,undef,undef,undef,undef,undef,undef,undef,undef,undef,undef,undef,undef,undef,undef],defers:=[]}) ?assign ?body ?done
  case assign=>
    exact Aa8
  case body=>
    rintro j pre e' b' V hVs ⟨⟨⟨kv,hKV,hfV⟩,hkwV⟩,hbV⟩ ⟨hst1,hst2⟩ hpl;obtain⟨q,hq⟩:∃q,q=pre.length:=⟨_,rfl⟩
    have hqn:q<a.xs.length:=by
      exact Ac0
    have hat:(fZ a la)[q]? =some e':=by
      obtain⟨t,ht⟩:=hpl;rw[<-ht,hq];simp
    obtain⟨hs1',hs2'⟩:=List.getElem?_zip_eq_some.1 hat;have hvx:VAt (fun g=>g<B) V (a.xs[q]) e'.2:=by
      exact Ac3
    obtain⟨ky,hky⟩:∃ky,ky=eP a.k (a.ks.take q) (a.xs.take q):=⟨_,rfl⟩
    have hsn:=nV (k:=a.k) (ks:=a.ks) hqn;rw[<-hky]at hsn;rw[<-hq,<-hky]at hfV;have HQ:=iH hq;have HSN:=iH hsn;obtain⟨⟨s1,s2,s3⟩,xc⟩:=e';have hst0:s1=0:=by
      unfold pA at hs1';rw[if_pos hk,List.getElem?_map]at hs1';obtain⟨i,_,hi⟩:=gD.1 hs1';exact(bH Prod.fst hi).symm
    subst hst0;have ce:V.cell? ⟨b',0,none⟩=some (.int .i64 0):=aK hst1 rfl;obtain⟨L,hL⟩:∃L,L=l++bt8 (a.k+1)::ky:=⟨_,rfl⟩
    rw[<-hL]at hfV;have HLL:=iH hL;obtain⟨a6,c6,rfl⟩:=hfV.len;have cK:=hKV.cell;have HIH:=iH (fun W kv' l' (hb:Below B V W) (hf:Buf B kv' l' W) (hl:l'.length+(dG a.xs[q]).length<=1000000000)=>ih (a.xs[q]) (aO hqn) W xc B kv' l' (ha.part (aO hqn)) (hvx.low hb) (hT5.low hTB (hbV.trans hb)) hTB hf hl);have hle:=tO (k:=a.k) (ks:=a.ks) (xs:=a.xs) (q+1);rw[HSN.out]at hle;have HLE:Hid (L.length+((if a.k=5 then wF (a.ks.getD q ⟨#[]⟩)else[]).length+(dG a.xs[q]).length)<=1000000000):=by
      exact Ad6
    obtain⟨kt,hkt'⟩:∃kt,kt=dG a.xs[q]:=⟨_,rfl⟩
    rw[<-hkt']at HIH HSN HLE;have HST2:=iH hst2;have HKV:=iH hKV;have HFV:=iH hfV;have HKW:=iH hkwV;have HBV:=iH hbV;have HVS:=iH hVs;have HWS:=iH (And.intro hs5 (And.intro hQw hbw));clear hst1 hst2 hpl hbV hVs hKV hfV hkwV hs5 hQw hseq hla hll hx5 hK5 hf5 hkw5 hT5 hbf hv ha hT hlen hkt hq hsn hat hs1' hs2' hvx hle hkt' hky hqn ih hL;have hone:(if a.k=5 then wF (a.ks.getD q ⟨#[]⟩)else[])=[]:=if_neg uAu;rw[hone]at HSN HLE;gi_wp2_with (first
      |(refine aFF rfl 35 _ rfl (b'+1) rfl 35 _ _ _ HST2.out Tryz.underlying35 rfl aR ?_))
    refine⟨trivial,(CallsIn.inRound j (cY.2 (HIH.out V _ L (aY _ _) HFV.out (by have:=HLE.out;simp only[bG]at this;omega)))).mono ?_⟩;rintro r V2 ⟨v2,rfl,hf2,hkw2⟩;obtain⟨a7,c7,rfl⟩:=hf2.len;have hK2:Boxed V2 (w.heap.size+1) 129 _:=hkw2.2.2.1 _ _ _ _ HKV.out uAv;have cK2:=hK2.cell;have fK2:=hK2.frozen;have HK2:=iH hK2;have HF2:=iH hf2;have HW2:=iH hkw2;clear hf2 hkw2 hK2;gi_wp2
    have hws:=HWS.out;obtain⟨v8,hv8⟩:∃v8,v8=Value.slice a7 (L.length+kt.length) c7:=⟨_,rfl⟩
    have hf8:Buf B v8 (L++kt) V2:=by have h:=HF2.out;rw[aD]at h;rw[hv8];exact h
    rw[<-hv8];obtain⟨V3,hV3⟩:∃V3,V3=V2.setCell ⟨w.heap.size+1,0,none⟩ v8:=⟨_,rfl⟩
    rw[<-hV3];have hg3:V2.grownBy V3 (some (w.heap.size+1)):=by rw[hV3];exact eE V2 _ _
    have hK3:Boxed V3 (w.heap.size+1) 129 v8:=by rw[hV3];exact HK2.out.set _
    have hf3:Buf B v8 (L++kt) V3:=hf8.grown hg3 (hf8.ne_box HK2.out uAv);have hk20:KW U8 B 0 V V2:=HW2.out;have hkw:∀Y,KW U8s B Y V V3:=fun Y=>((hk20.mono fun _ h=>.inl h).up (aQ Y)).trans (KW.grown hg3 uAu HK2.out.lt HK2.out (.inr rfl))
    have hw3:KW U8 B 0 w V3:=(HKW.out.trans hk20).new hg3 uAu uAu;refine⟨⟨(hkw 0).2.1,fun g o hg ho hc=>(hkw w5.heap.size).2.2.2 g o hg ho hc⟩,hkw _,⟨⟨v8,hK3,?_⟩,hw3⟩,HBV.out.trans (hkw 0).1⟩;have he:l++bt8 (a.k+1)::eP a.k (a.ks.take (pre++[((0,s2,s3),xc)]).length) (a.xs.take (pre++[((0,s2,s3),xc)]).length)=L++kt:=by
      exact Aj7
    first|rw[he]|(rw[hk,show(4:Int)+1=5 from by decide]at he;rw[he])
    exact hf3
  case done=>
    exact Aa1
theorem aHi (a:Tr) (hk:a.k=6) (ih:∀y∈a.xs,vC y):vC a:=by
  intro w x B v l ha hv hT hTB hbf hlen;have hkt:dG a=bt8 (a.k+1)::(eP a.k a.ks a.xs++[0]):=by
    cases a with
    |nd k n t ks xs=>rw[dG];exact if_neg (by have h:k=6:=hk;omega)
  rw[hkt]at hlen ⊢;obtain⟨a0,c0,rfl⟩:=hbf.len;obtain⟨w1,hw1⟩:∃w1,(w.alloc (.cells (aX x) 35)).alloc (.cells #[.slice a0 l.length c0] 129)=w1:=⟨_,rfl⟩
  obtain⟨hb1,hx1,hy1,hs1⟩:=eR hw1;have hbw:=hbf.2;have hk1:Boxed w1 (w.heap.size+1) 129 (.slice a0 l.length c0):=hy1;have HX1:=iH hx1;have HB1:=iH hb1;have HS1:=iH hs1;have HK1:=iH hk1;have HKA:=iH (oE w1 x);rw[hv.k,hk]at HKA;have HPA:=iH (fun W=>cY.1 (oO 5 x W));have hlen':l.length+1<=140737488355328:=by simp only[aL]at hlen;omega
  have HBF:=iH (fun W (hb:Below w1.heap.size w1 W)=>hbf.later (tW hb1 hb));clear hx1 hy1 hb1 hk1;refine(cY (n:=5)).1 ?_;refine eW Tryz.func71 rfl trivial ?_ rfl;refine gH.2 ?_;simp only[Tryz.ntmps71,cA,aL,bG,Nat.reduceAdd,Nat.reduceSub,bY,bW,cM,cD,bD,bC];go_upto_region 1 with fail
  clear hw1;go_upto_region 9 with(first
    |(refine bR rfl 35 _ rfl w.heap.size rfl 35 _ _ _ HX1.out Tryz.underlying35 rfl aR ?_)
    |(go_at_call 44;refine HKA.out.mono ?_;rintro r w2 ⟨rfl,hb2⟩;have HB2:=iH hb2;have hk2:Boxed w2 (w.heap.size+1) 129 (.slice a0 l.length c0):=(hb2.block _ HK1.out.lt).trans HK1.out;have ck2:=hk2.cell;have HK2:=iH hk2;have HN2:=iH (Below.newly' w2 (.cells #[.int .u8 7] 5));clear hk2 hb2)
    |(at_builtin;go_loud (refine zL rfl (.tmp 26) (.tmp 27) rfl rfl (HBF.out _ HB2.out) [7] _ rfl 1 1 rfl rfl (by exact hlen') ?_)
      intro v3 w3 h3 hg3;obtain⟨a3,c3,rfl⟩:=h3.len;have hk3:Boxed w3 (w.heap.size+1) 129 (.slice a0 l.length c0):=((HBF.out _ HB2.out).later HN2.out).keepsT hg3 uAv ((HN2.out.block _ HK2.out.lt).trans HK2.out);have ck3:=hk3.cell;have fk3:=hk3.frozen;have HK3:=iH hk3;have HF3:=iH h3;have HG3:=iH hg3;clear h3 hg3 hk3))
  have hlt1:=HS1.out;obtain⟨v3,hv3⟩:∃v3,v3=Value.slice a3 (l.length+1) c3:=⟨_,rfl⟩
  have hf3:Buf B v3 (l++[7]) w3:=by have h:=HF3.out;rw[aD]at h;rw[hv3];exact h
  obtain⟨w4,hw4⟩:∃w4,w4=w3.setCell ⟨w.heap.size+1,0,none⟩ v3:=⟨_,rfl⟩
  have hg4:w3.grownBy w4 (some (w.heap.size+1)):=by rw[hw4];exact eE w3 _ _
  have hK4:Boxed w4 (w.heap.size+1) 129 v3:=by rw[hw4];exact HK3.out.set _
  have hf4:Buf B v3 (l++[7]) w4:=hf3.grown hg4 (hf3.ne_box HK3.out uAv);have hb12:Below w.heap.size w (w2.alloc (.cells #[.int .u8 7] 5)):=(tW HB1.out HB2.out).trans (HN2.out.mono (aG HB1.out.size HB2.out.size));have hbn:=(HBF.out _ HB2.out).later HN2.out;have hkw4:KW U8 B 0 w w4:=((KW.below hb12 hbw).trans (hbn.kw (Ts:=U8) HG3.out (aE _) rfl)).new hg4 uAu hbw;have hx3:w3.heap[w.heap.size]? =some (.cells (aX x) 35 (0,0)):=hbn.keepsT HG3.out uAv ((HN2.out.block _ uHu).trans (kW HB2.out HX1.out));have HX4:=iH ((hg4.block _ (gZ hx3) uBu).trans hx3);have hlen3:w.heap.size+2<=w4.heap.size:=by have h1:=HB2.out.size;have h2:=HN2.out.size;have h3:=HG3.out.size;have h4:=hg4.size;omega
  rw[<-hv3,<-hw4];clear hv3 hw4 hg4 hf3 hb12 hbn hx3 HF3 HG3 HK3 HX1 HK1 HB2 HK2 HN2 HBF ck2 ck3 fk3 HKA;go_wp2_with (first
    |(refine bR rfl 35 _ rfl w.heap.size rfl 35 _ _ _ HX4.out Tryz.underlying35 rfl aR ?_)
    |(go_at_call 45;(with_reducible refine(HPA.out _).mono ?_);rintro r w5 ⟨rfl,rfl⟩))
  obtain⟨w5,hw5⟩:∃w5,w5=w4.alloc (.cells (aX x) 35):=⟨_,rfl⟩
  obtain⟨Q,hQ⟩:∃Q,Q=w4.heap.size:=⟨_,rfl⟩
  have hb5:Below w4.heap.size w4 w5:=by rw[hw5];exact Below.newly' _ _
  have hx5:w5.heap[Q]? =some (.cells (aX x) 35 (0,0)):=by rw[hw5,hQ];exact aF _ _
  have hs5:w5.heap.size=Q+1:=by rw[hw5,hQ];simp
  have hK5:Boxed w5 (w.heap.size+1) 129 v3:=(hb5.block _ hK4.lt).trans hK4;have hf5:=hf4.later hb5;have hkw5:KW U8 B 0 w w5:=hkw4.trans (KW.below hb5 uAu);have hT5:fW w5:=fun j hj=>(hkw5.1.cell (p:=⟨1,j,none⟩) hTB).trans (hT j hj)
  have hQw:w.heap.size+2<=Q:=by omega
  rw[<-hw5,<-hQ];clear hw5 hb5 hK4 hf4 hkw4 hQ HX4 hlen3;obtain⟨la,hla,hseq⟩:=rU zT Q B a x ha w5 uAu hx5 (hv.low hkw5.1) hT5;have hll:=fG hla;refine(gH (n:=5)).1 ?_;refine kJ (n₀:=B) uAu (aAr U8s B) (gf:=77) (lb:=#[.pointer (some ⟨Q,0,none⟩)]) rfl (lX Tryz.func77 hO rfl)
    hseq (fun _=>rfl)
    (fun(pre:List (Stp×Cel)) V=>((∃kv,Boxed V (w.heap.size+1) 129 kv/\Buf B kv (l++bt8 (a.k+1)::eP a.k (a.ks.take pre.length) (a.xs.take pre.length)) V)/\KW U8 B 0 w V)/\Below B w5 V)
    (fun s A B' hrow hs hg hr=>by
      obtain⟨⟨⟨kv,h1,h2⟩,h3⟩,h4⟩:=hs;have hsz:w5.heap.size<=A.heap.size:=h4.size;have hI:IKW U8s w5.heap.size A B':=mM hg hsz (aE _) hr;exact⟨⟨⟨kv,hI.2.2 _ _ _ _ h1 (.inr rfl),h2.ikw hI (.inl rfl)⟩,h3.ik hI uAu uAu⟩,h4.trans (hI.2.1.mono uAu)⟩)
    (fun s A B' h hb=>by
      obtain⟨⟨⟨kv,h1,h2⟩,h3⟩,h4⟩:=h;exact⟨⟨⟨kv,hb.2.2 _ _ _ _ h1 (.inr rfl),h2.ikw hb (.inl rfl)⟩,h3.ik hb uAu uAu⟩,h4.trans (hb.2.1.mono uAu)⟩)
    (fun s A B' h hb=>by
      obtain⟨⟨⟨kv,h1,h2⟩,h3⟩,h4⟩:=h;have hsz:w5.heap.size<=A.heap.size:=h4.size;exact⟨⟨⟨kv,(hb.block _ h1.lt).trans h1,h2.later hb⟩,h3.trans (KW.below hb uAu)⟩,h4.trans (hb.mono uAu)⟩)
    ⟨⟨⟨v3,hK5,by rw[hk,show bt8 (6+1)=7 from by decide,bG,eB,eB,eP];exact hf5⟩,hkw5⟩,aY _ _⟩
    (fun e b V=>V.heap[b]? =some (.cells (rP e.1) 67 (0,0))/\V.heap[b+1]? =some (.cells (aX e.2) 35 (0,0)))
    (fun e b A l o o' h1 h2 h=>⟨by rw[cF (fun e=>by rw[e,h1]at h;cases h.1;cases h2)];exact h.1,by rw[cF (fun e=>by rw[e,h1]at h;cases h.2;cases h2)];exact h.2⟩)
    (fun h hn=>KW.below h hn)
    (fun e' b'=>{tmps:=#[.agg (aX x),.slice a0 l.length c0,.pointer (some ⟨w.heap.size,0,none⟩),.pointer (some ⟨w.heap.size+1,0,none⟩),.slice none 0 0,.pointer (some ⟨b',0,none⟩),.pointer (some ⟨b'+1,0,none⟩),.agg (aX x),.int .i64 6,undef,undef,undef,undef,undef,.bool false,.bool false,undef,undef,undef,.bool false,.bool false,undef,undef,undef,.bool true,.bool true,.slice a0 l.length c0,.slice (some ⟨w2.heap.size,0,none⟩) 1 1,v3,.agg (aX x),.func (.func 77) #[] #[.pointer (some ⟨Q,0,none⟩)],.agg (rP e'.1),.agg (aX e'.2),undef,undef,undef,undef,undef,undef,undef,undef,undef,undef,undef,undef,undef,undef,undef,undef,undef,undef,undef,undef,undef,undef],defers:=[]}) ?assign ?body ?done
  case assign=>
    exact Aa8
  case body=>
    rintro j pre e' b' V hVs ⟨⟨⟨kv,hKV,hfV⟩,hkwV⟩,hbV⟩ ⟨hst1,hst2⟩ hpl;obtain⟨q,hq⟩:∃q,q=pre.length:=⟨_,rfl⟩
    have hqn:q<a.xs.length:=by
      exact Ac0
    have hat:(fZ a la)[q]? =some e':=by
      obtain⟨t,ht⟩:=hpl;rw[<-ht,hq];simp
    obtain⟨hs1',hs2'⟩:=List.getElem?_zip_eq_some.1 hat;have hvx:VAt (fun g=>g<B) V (a.xs[q]) e'.2:=by
      exact Ac3
    obtain⟨ky,hky⟩:∃ky,ky=eP a.k (a.ks.take q) (a.xs.take q):=⟨_,rfl⟩
    have hsn:=nV (k:=a.k) (ks:=a.ks) hqn;rw[<-hky]at hsn;rw[<-hq,<-hky]at hfV;have HQ:=iH hq;have HSN:=iH hsn;obtain⟨⟨s1,s2,s3⟩,xc⟩:=e';have hst0:s1=2/\kb s3=dG a.xs[q]:=by
      unfold pA at hs1';rw[if_neg uAu,if_neg uAu,List.getElem?_map,List.getElem?_eq_getElem hqn]at hs1';have hi:=aN hs1';have h2:s3=kB a.xs[q]:=(bH (fun e=>e.2.2) hi).symm;exact⟨(bH Prod.fst hi).symm,by rw[h2,aBL]⟩
    obtain⟨rfl,hs3⟩:=hst0;have ce:V.cell? ⟨b',0,none⟩=some (.int .i64 2):=aK hst1 rfl;have ct:V.cell? ⟨b',2,none⟩=some (.string s3):=aK hst1 rfl;obtain⟨L,hL⟩:∃L,L=l++bt8 (a.k+1)::ky:=⟨_,rfl⟩
    rw[<-hL]at hfV;have HLL:=iH hL;obtain⟨a6,c6,rfl⟩:=hfV.len;have cK:=hKV.cell;have HIH:=iH (fun W kv' l' (hb:Below B V W) (hf:Buf B kv' l' W) (hl:l'.length+(dG a.xs[q]).length<=1000000000)=>ih (a.xs[q]) (aO hqn) W xc B kv' l' (ha.part (aO hqn)) (hvx.low hb) (hT5.low hTB (hbV.trans hb)) hTB hf hl);have hle:=tO (k:=a.k) (ks:=a.ks) (xs:=a.xs) (q+1);rw[HSN.out]at hle;have HLE:Hid (L.length+((if a.k=5 then wF (a.ks.getD q ⟨#[]⟩)else[]).length+(dG a.xs[q]).length)<=1000000000):=by
      exact Ad6
    obtain⟨kt,hkt'⟩:∃kt,kt=dG a.xs[q]:=⟨_,rfl⟩
    rw[<-hkt']at HIH HSN HLE hs3;have HS3:=iH hs3;clear hs3;have HST2:=iH hst2;have HKV:=iH hKV;have HFV:=iH hfV;have HKW:=iH hkwV;have HBV:=iH hbV;have HVS:=iH hVs;have HWS:=iH (And.intro hs5 (And.intro hQw hbw));clear hst1 hst2 hpl hbV hVs hKV hfV hkwV hs5 hQw hseq hla hll hx5 hK5 hf5 hkw5 hT5 hbf hv ha hT hlen hkt hq hsn hat hs1' hs2' hvx hle hkt' hky hqn ih hL;have hone:(if a.k=5 then wF (a.ks.getD q ⟨#[]⟩)else[])=[]:=if_neg uAu;rw[hone]at HSN HLE;gi_wp2_with (first
      |(refine pP rfl (fun c' hc=>by cases hc) fun K hK=> ?_;refine aEu _ _ rfl (B:=B) (l:=L) rfl HFV.out s3 rfl (by have h:=HLE.out;have h3:=bH List.length HS3.out;have h4:(kb s3).length=s3.size:=bB;omega) ?_;intro v2 V2 hf2 hg2;refine hK _ _ ?_;obtain⟨a7,c7,rfl⟩:=hf2.len;have hK2:Boxed V2 (w.heap.size+1) 129 _:=HFV.out.keepsT hg2 uAv HKV.out;have cK2:=hK2.cell;have fK2:=hK2.frozen;have HK2:=iH hK2;have HF2:=iH hf2;have HG2:=iH hg2;clear hf2 hg2 hK2 hK K))
    have hws:=HWS.out;obtain⟨v8,hv8⟩:∃v8,v8=Value.slice a7 (L.length+(kb s3).length) c7:=⟨_,rfl⟩
    have hf8:Buf B v8 (L++kt) V2:=by have h:=HF2.out;rw[aD]at h;rw[hv8,<-HS3.out];exact h
    rw[<-hv8];obtain⟨V3,hV3⟩:∃V3,V3=V2.setCell ⟨w.heap.size+1,0,none⟩ v8:=⟨_,rfl⟩
    rw[<-hV3];have hg3:V2.grownBy V3 (some (w.heap.size+1)):=by rw[hV3];exact eE V2 _ _
    have hK3:Boxed V3 (w.heap.size+1) 129 v8:=by rw[hV3];exact HK2.out.set _
    have hf3:Buf B v8 (L++kt) V3:=hf8.grown hg3 (hf8.ne_box HK2.out uAv);have hk20:KW U8 B 0 V V2:=HFV.out.kw HG2.out (aE _) rfl;have hkw:∀Y,KW U8s B Y V V3:=fun Y=>((hk20.mono fun _ h=>.inl h).up (aQ Y)).trans (KW.grown hg3 uAu HK2.out.lt HK2.out (.inr rfl))
    have hw3:KW U8 B 0 w V3:=(HKW.out.trans hk20).new hg3 uAu uAu;refine⟨⟨(hkw 0).2.1,fun g o hg ho hc=>(hkw w5.heap.size).2.2.2 g o hg ho hc⟩,hkw _,⟨⟨v8,hK3,?_⟩,hw3⟩,HBV.out.trans (hkw 0).1⟩;have he:l++bt8 (a.k+1)::eP a.k (a.ks.take (pre++[((2,s2,s3),xc)]).length) (a.xs.take (pre++[((2,s2,s3),xc)]).length)=L++kt:=by
      exact Aj7
    first|rw[he]|(rw[hk,show(6:Int)+1=7 from by decide]at he;rw[he])
    exact hf3
  case done=>
    exact Aa1
theorem aHj (a:Tr) (hk:a.k=5) (ih:∀y∈a.xs,vC y):vC a:=by
  intro w x B v l ha hv hT hTB hbf hlen;have hkt:dG a=bt8 (a.k+1)::(eP a.k a.ks a.xs++[0]):=by
    cases a with
    |nd k n t ks xs=>rw[dG];exact if_neg (by have h:k=5:=hk;omega)
  rw[hkt]at hlen ⊢;obtain⟨a0,c0,rfl⟩:=hbf.len;obtain⟨w1,hw1⟩:∃w1,(w.alloc (.cells (aX x) 35)).alloc (.cells #[.slice a0 l.length c0] 129)=w1:=⟨_,rfl⟩
  obtain⟨hb1,hx1,hy1,hs1⟩:=eR hw1;have hbw:=hbf.2;have hk1:Boxed w1 (w.heap.size+1) 129 (.slice a0 l.length c0):=hy1;have HX1:=iH hx1;have HB1:=iH hb1;have HS1:=iH hs1;have HK1:=iH hk1;have HKA:=iH (oE w1 x);rw[hv.k,hk]at HKA;have HPA:=iH (fun W=>cY.1 (oO 5 x W));have hlen':l.length+1<=140737488355328:=by simp only[aL]at hlen;omega
  have HBF:=iH (fun W (hb:Below w1.heap.size w1 W)=>hbf.later (tW hb1 hb));clear hx1 hy1 hb1 hk1;refine(cY (n:=5)).1 ?_;refine eW Tryz.func71 rfl trivial ?_ rfl;refine gH.2 ?_;simp only[Tryz.ntmps71,cA,aL,bG,Nat.reduceAdd,Nat.reduceSub,bY,bW,cM,cD,bD,bC];go_upto_region 1 with fail
  clear hw1;go_upto_region 9 with(first
    |(refine bR rfl 35 _ rfl w.heap.size rfl 35 _ _ _ HX1.out Tryz.underlying35 rfl aR ?_)
    |(go_at_call 44;refine HKA.out.mono ?_;rintro r w2 ⟨rfl,hb2⟩;have HB2:=iH hb2;have hk2:Boxed w2 (w.heap.size+1) 129 (.slice a0 l.length c0):=(hb2.block _ HK1.out.lt).trans HK1.out;have ck2:=hk2.cell;have HK2:=iH hk2;have HN2:=iH (Below.newly' w2 (.cells #[.int .u8 6] 5));clear hk2 hb2)
    |(at_builtin;go_loud (refine zL rfl (.tmp 21) (.tmp 22) rfl rfl (HBF.out _ HB2.out) [6] _ rfl 1 1 rfl rfl (by exact hlen') ?_)
      intro v3 w3 h3 hg3;obtain⟨a3,c3,rfl⟩:=h3.len;have hk3:Boxed w3 (w.heap.size+1) 129 (.slice a0 l.length c0):=((HBF.out _ HB2.out).later HN2.out).keepsT hg3 uAv ((HN2.out.block _ HK2.out.lt).trans HK2.out);have ck3:=hk3.cell;have fk3:=hk3.frozen;have HK3:=iH hk3;have HF3:=iH h3;have HG3:=iH hg3;clear h3 hg3 hk3))
  have hlt1:=HS1.out;obtain⟨v3,hv3⟩:∃v3,v3=Value.slice a3 (l.length+1) c3:=⟨_,rfl⟩
  have hf3:Buf B v3 (l++[6]) w3:=by have h:=HF3.out;rw[aD]at h;rw[hv3];exact h
  obtain⟨w4,hw4⟩:∃w4,w4=w3.setCell ⟨w.heap.size+1,0,none⟩ v3:=⟨_,rfl⟩
  have hg4:w3.grownBy w4 (some (w.heap.size+1)):=by rw[hw4];exact eE w3 _ _
  have hK4:Boxed w4 (w.heap.size+1) 129 v3:=by rw[hw4];exact HK3.out.set _
  have hf4:Buf B v3 (l++[6]) w4:=hf3.grown hg4 (hf3.ne_box HK3.out uAv);have hb12:Below w.heap.size w (w2.alloc (.cells #[.int .u8 6] 5)):=(tW HB1.out HB2.out).trans (HN2.out.mono (aG HB1.out.size HB2.out.size));have hbn:=(HBF.out _ HB2.out).later HN2.out;have hkw4:KW U8 B 0 w w4:=((KW.below hb12 hbw).trans (hbn.kw (Ts:=U8) HG3.out (aE _) rfl)).new hg4 uAu hbw;have hx3:w3.heap[w.heap.size]? =some (.cells (aX x) 35 (0,0)):=hbn.keepsT HG3.out uAv ((HN2.out.block _ uHu).trans (kW HB2.out HX1.out));have HX4:=iH ((hg4.block _ (gZ hx3) uBu).trans hx3);have hlen3:w.heap.size+2<=w4.heap.size:=by have h1:=HB2.out.size;have h2:=HN2.out.size;have h3:=HG3.out.size;have h4:=hg4.size;omega
  rw[<-hv3,<-hw4];clear hv3 hw4 hg4 hf3 hb12 hbn hx3 HF3 HG3 HK3 HX1 HK1 HB2 HK2 HN2 HBF ck2 ck3 fk3 HKA;go_wp2_with (first
    |(refine bR rfl 35 _ rfl w.heap.size rfl 35 _ _ _ HX4.out Tryz.underlying35 rfl aR ?_)
    |(go_at_call 45;(with_reducible refine(HPA.out _).mono ?_);rintro r w5 ⟨rfl,rfl⟩))
  obtain⟨w5,hw5⟩:∃w5,w5=w4.alloc (.cells (aX x) 35):=⟨_,rfl⟩
  obtain⟨Q,hQ⟩:∃Q,Q=w4.heap.size:=⟨_,rfl⟩
  have hb5:Below w4.heap.size w4 w5:=by rw[hw5];exact Below.newly' _ _
  have hx5:w5.heap[Q]? =some (.cells (aX x) 35 (0,0)):=by rw[hw5,hQ];exact aF _ _
  have hs5:w5.heap.size=Q+1:=by rw[hw5,hQ];simp
  have hK5:Boxed w5 (w.heap.size+1) 129 v3:=(hb5.block _ hK4.lt).trans hK4;have hf5:=hf4.later hb5;have hkw5:KW U8 B 0 w w5:=hkw4.trans (KW.below hb5 uAu);have hT5:fW w5:=fun j hj=>(hkw5.1.cell (p:=⟨1,j,none⟩) hTB).trans (hT j hj)
  have hQw:w.heap.size+2<=Q:=by omega
  rw[<-hw5,<-hQ];clear hw5 hb5 hK4 hf4 hkw4 hQ HX4 hlen3;obtain⟨la,hla,hseq⟩:=rU zT Q B a x ha w5 uAu hx5 (hv.low hkw5.1) hT5;have hll:=fG hla;refine(gH (n:=5)).1 ?_;refine kJ (n₀:=B) uAu (aAr U8s B) (gf:=77) (lb:=#[.pointer (some ⟨Q,0,none⟩)]) rfl (lX Tryz.func77 hO rfl)
    hseq (fun _=>rfl)
    (fun(pre:List (Stp×Cel)) V=>((∃kv,Boxed V (w.heap.size+1) 129 kv/\Buf B kv (l++bt8 (a.k+1)::eP a.k (a.ks.take pre.length) (a.xs.take pre.length)) V)/\KW U8 B 0 w V)/\Below B w5 V)
    (fun s A B' hrow hs hg hr=>by
      obtain⟨⟨⟨kv,h1,h2⟩,h3⟩,h4⟩:=hs;have hsz:w5.heap.size<=A.heap.size:=h4.size;have hI:IKW U8s w5.heap.size A B':=mM hg hsz (aE _) hr;exact⟨⟨⟨kv,hI.2.2 _ _ _ _ h1 (.inr rfl),h2.ikw hI (.inl rfl)⟩,h3.ik hI uAu uAu⟩,h4.trans (hI.2.1.mono uAu)⟩)
    (fun s A B' h hb=>by
      obtain⟨⟨⟨kv,h1,h2⟩,h3⟩,h4⟩:=h;exact⟨⟨⟨kv,hb.2.2 _ _ _ _ h1 (.inr rfl),h2.ikw hb (.inl rfl)⟩,h3.ik hb uAu uAu⟩,h4.trans (hb.2.1.mono uAu)⟩)
    (fun s A B' h hb=>by
      obtain⟨⟨⟨kv,h1,h2⟩,h3⟩,h4⟩:=h;have hsz:w5.heap.size<=A.heap.size:=h4.size;exact⟨⟨⟨kv,(hb.block _ h1.lt).trans h1,h2.later hb⟩,h3.trans (KW.below hb uAu)⟩,h4.trans (hb.mono uAu)⟩)
    ⟨⟨⟨v3,hK5,by rw[hk,show bt8 (5+1)=6 from by decide,bG,eB,eB,eP];exact hf5⟩,hkw5⟩,aY _ _⟩
    (fun e b V=>V.heap[b]? =some (.cells (rP e.1) 67 (0,0))/\V.heap[b+1]? =some (.cells (aX e.2) 35 (0,0)))
    (fun e b A l o o' h1 h2 h=>⟨by rw[cF (fun e=>by rw[e,h1]at h;cases h.1;cases h2)];exact h.1,by rw[cF (fun e=>by rw[e,h1]at h;cases h.2;cases h2)];exact h.2⟩)
    (fun h hn=>KW.below h hn)
    (fun e' b'=>{tmps:=#[.agg (aX x),.slice a0 l.length c0,.pointer (some ⟨w.heap.size,0,none⟩),.pointer (some ⟨w.heap.size+1,0,none⟩),.slice none 0 0,.pointer (some ⟨b',0,none⟩),.pointer (some ⟨b'+1,0,none⟩),.agg (aX x),.int .i64 5,undef,undef,undef,undef,undef,.bool false,.bool false,undef,undef,undef,.bool true,.bool true,.slice a0 l.length c0,.slice (some ⟨w2.heap.size,0,none⟩) 1 1,v3,undef,undef,undef,undef,undef,.agg (aX x),.func (.func 77) #[] #[.pointer (some ⟨Q,0,none⟩)],.agg (rP e'.1),.agg (aX e'.2),undef,undef,undef,undef,undef,undef,undef,undef,undef,undef,undef,undef,undef,undef,undef,undef,undef,undef,undef,undef,undef,undef],defers:=[]}) ?assign ?body ?done
  case assign=>
    exact Aa8
  case body=>
    rintro j pre e' b' V hVs ⟨⟨⟨kv,hKV,hfV⟩,hkwV⟩,hbV⟩ ⟨hst1,hst2⟩ hpl;obtain⟨q,hq⟩:∃q,q=pre.length:=⟨_,rfl⟩
    have hqn:q<a.xs.length:=by
      exact Ac0
    have hat:(fZ a la)[q]? =some e':=by
      obtain⟨t,ht⟩:=hpl;rw[<-ht,hq];simp
    obtain⟨hs1',hs2'⟩:=List.getElem?_zip_eq_some.1 hat;have hvx:VAt (fun g=>g<B) V (a.xs[q]) e'.2:=by
      exact Ac3
    obtain⟨ky,hky⟩:∃ky,ky=eP a.k (a.ks.take q) (a.xs.take q):=⟨_,rfl⟩
    have hsn:=nV (k:=a.k) (ks:=a.ks) hqn;rw[<-hky]at hsn;rw[<-hq,<-hky]at hfV;have HQ:=iH hq;have HSN:=iH hsn;obtain⟨⟨s1,s2,s3⟩,xc⟩:=e';have hst0:s1=1/\s3=a.ks.getD q ⟨#[]⟩/\s3.size<=3000:=by
      unfold pA at hs1';rw[if_neg uAu,if_pos hk,List.getElem?_map]at hs1';obtain⟨y,hy,hi⟩:=gD.1 hs1';have h3:y=s3:=bH (fun e=>e.2.2) hi;refine⟨(bH Prod.fst hi).symm,by rw[List.getD_eq_getElem?_getD,hy,<-h3];rfl,?_⟩;rw[<-h3];exact(eT.1 ha.2).2.1 y (fY hy)
    obtain⟨rfl,hs3,hsz3⟩:=hst0;have ce:V.cell? ⟨b',0,none⟩=some (.int .i64 1):=aK hst1 rfl;have ct:V.cell? ⟨b',2,none⟩=some (.string s3):=aK hst1 rfl;obtain⟨L,hL⟩:∃L,L=l++bt8 (a.k+1)::ky:=⟨_,rfl⟩
    rw[<-hL]at hfV;have HLL:=iH hL;obtain⟨a6,c6,rfl⟩:=hfV.len;have cK:=hKV.cell;have HIH:=iH (fun W kv' l' (hb:Below B V W) (hf:Buf B kv' l' W) (hl:l'.length+(dG a.xs[q]).length<=1000000000)=>ih (a.xs[q]) (aO hqn) W xc B kv' l' (ha.part (aO hqn)) (hvx.low hb) (hT5.low hTB (hbV.trans hb)) hTB hf hl);have hle:=tO (k:=a.k) (ks:=a.ks) (xs:=a.xs) (q+1);rw[HSN.out]at hle;have HLE:Hid (L.length+((if a.k=5 then wF (a.ks.getD q ⟨#[]⟩)else[]).length+(dG a.xs[q]).length)<=1000000000):=by
      exact Ad6
    obtain⟨kt,hkt'⟩:∃kt,kt=dG a.xs[q]:=⟨_,rfl⟩
    rw[<-hkt']at HIH HSN HLE;have HST2:=iH hst2;have HKV:=iH hKV;have HFV:=iH hfV;have HKW:=iH hkwV;have HBV:=iH hbV;have HVS:=iH hVs;have HWS:=iH (And.intro hs5 (And.intro hQw hbw));clear hst1 hst2 hpl hbV hVs hKV hfV hkwV hs5 hQw hseq hla hll hx5 hK5 hf5 hkw5 hT5 hbf hv ha hT hlen hkt hq hsn hat hs1' hs2' hvx hle hkt' hky hqn ih hL;have hone:(if a.k=5 then wF (a.ks.getD q ⟨#[]⟩)else[])=wF s3:=by rw[if_pos hk,<-hs3]
    rw[hone]at HSN HLE;have HSK:=iH (fun W=>aKh 3 0 s3 W aLd (aG hsz3 uAv));obtain⟨ky2,hky2⟩:∃ky2,ky2=kX (scT 3 0 s3):=⟨_,rfl⟩
    have hky3:wF s3=ky2:=hky2.symm;rw[<-hky2]at HSK;rw[hky3]at HSN HLE;clear hone hs3 hsz3 hky2 hky3;have hszk:L.length+(⟨ky2.toArray⟩:ByteArray).size<=140737488355328:=by
      have h:=HLE.out;have h4:(⟨ky2.toArray⟩:ByteArray).size=ky2.length:=by simp[ByteArray.size]
      omega
    have HSZK:=iH hszk;clear hszk;have HCT:=iH ct;have HCK:=iH cK;gi_wp2_with fail
    have HKS:Hid (∀W,Below V.heap.size V W->W.cell? ⟨w.heap.size+1,0,none⟩=some (.slice a6 L.length c6)/\W.cell? ⟨b',2,none⟩=some (.string s3)):=fun W hW=>⟨gS HCK.out hW,gS HCT.out hW⟩
    have HW:Hid (Below V.heap.size V V.drew):=bE V;refine rB (S:=(fun W=>W.cell? ⟨w.heap.size+1,0,none⟩=some (.slice a6 L.length c6)/\W.cell? ⟨b',2,none⟩=some (.string s3))) [5,6] hO hO (fun⟨_,_,h⟩=>h) uAw (fun hHeld=> ?_);refine tkL 0 43 (h:=?_);refine tkL 1 44 (h:=?_);(try simp only[pq]);refine tkL 2 45 (h:=?_);refine tkL 3 46 (h:=?_);(try simp only[pq]);refine tkO 4 (some 47) (h:=fun K hK=> ?_);go_simp;go_at_call 101;(with_reducible refine(HSK.out _).mono ?_);rintro r wc ⟨rfl,hb⟩;replace HW:=iH (tW HW.out hb);clear hb;dsimp only;refine hK.out _ _ uAw (fun hHeld=> ?_);clear hK K;(try simp only[pq]);refine tkU 5 (some 48) (h:=fun K hK=> ?_);refine aEu _ _ rfl (B:=B) (l:=L) rfl (HFV.out.later HW.out) _ rfl (by exact HSZK.out) ?_;intro v4 V4 h4 hg4;obtain⟨a8,c8,rfl⟩:=h4.len;have hK4:Boxed V4 (w.heap.size+1) 129 _:=(HFV.out.later HW.out).keepsT hg4 uAv ((HW.out.block _ HKV.out.lt).trans HKV.out);have cK4:=hK4.cell;have fK4:=hK4.frozen;refine hK.out _ _ ?_;clear hK K;(try simp only[pq]);refine tkU 6 none (h:=fun K hK=> ?_);go_simp;refine hK.out _ _ ?_;clear hK K;(try simp only[pq]);refine bK hO ?_ _;clear hHeld;obtain⟨L5,hL5⟩:∃L5,L5=L++ky2:=⟨_,rfl⟩
    have e5:L.length+(kb ⟨ky2.toArray⟩).length=L5.length:=by rw[aL8,hL5,aD]
    have hf4:Buf B (.slice a8 L5.length c8) L5 V4:=by have h:=h4;rw[aL8,aD]at h;rw[hL5,aD];exact h
    rw[e5];have hws:=HWS.out;have hbV:=HKW.out.2.1;have hk04:KW U8 B 0 V V4:=(KW.below HW.out uAu).trans ((HFV.out.later HW.out).kw hg4 (aE _) rfl);obtain⟨V5,hV5⟩:∃V5,V5=V4.setCell ⟨w.heap.size+1,0,none⟩ (.slice a8 L5.length c8):=⟨_,rfl⟩
    have hg5:V4.grownBy V5 (some (w.heap.size+1)):=by rw[hV5];exact eE V4 _ _
    have hK5:Boxed V5 (w.heap.size+1) 129 (.slice a8 L5.length c8):=by rw[hV5];exact hK4.set _
    have hf5:Buf B (.slice a8 L5.length c8) L5 V5:=hf4.grown hg5 (hf4.ne_box hK4 uAv);have hw5:KW U8 B 0 w V5:=(HKW.out.trans hk04).new hg5 uAu uAu;have hk05:KW U8s B 0 V V5:=(hk04.mono fun _ h=>.inl h).trans (KW.grown hg5 uAu hK4.lt hK4 (.inr rfl));have hst4:V4.heap[b'+1]? =some (.cells (aX xc) 35 (0,0)):=hk04.2.2.1 _ _ _ _ HST2.out uAv;have HST5:=iH ((hg5.block _ (gZ hst4) (fun e=>by
      have e':=aN e;rw[e',show V4.heap[w.heap.size+1]? =_ from hK4]at hst4;simp only[cC,dU]at hst4;exact absurd hst4.2.1 uAv)).trans hst4)
    have cK5:=hK5.cell;rw[<-hV5];have HLL5:=iH hL5;have HK5:=iH hK5;have HF5:=iH hf5;have HW5:=iH hw5;have HK05:=iH hk05;clear hL5 e5 hf4 hk04 hV5 hg5 hK5 hf5 hw5 hk05 hst4 h4 hg4 hK4 cK4 fK4 hws hbV;gi_wp2_with (first
      |(refine aFF rfl 35 _ rfl (b'+1) rfl 35 _ _ _ HST5.out Tryz.underlying35 rfl aR ?_))
    refine⟨trivial,(CallsIn.inRound j (cY.2 (HIH.out V5 _ L5 HK05.out.1 HF5.out (by have:=HLE.out;have h5:=bH List.length HLL5.out;rw[aD]at h5;omega)))).mono ?_⟩;rintro r V2 ⟨v2,rfl,hf2,hkw2⟩;obtain⟨a7,c7,rfl⟩:=hf2.len;have hK2:Boxed V2 (w.heap.size+1) 129 _:=hkw2.2.2.1 _ _ _ _ HK5.out uAv;have cK2:=hK2.cell;have fK2:=hK2.frozen;have HK2:=iH hK2;have HF2:=iH hf2;have HW2:=iH hkw2;clear hf2 hkw2 hK2;gi_wp2
    have hws:=HWS.out;obtain⟨v8,hv8⟩:∃v8,v8=Value.slice a7 (L5.length+kt.length) c7:=⟨_,rfl⟩
    have hf8:Buf B v8 (L5++kt) V2:=by have h:=HF2.out;rw[aD]at h;rw[hv8];exact h
    rw[<-hv8];obtain⟨V3,hV3⟩:∃V3,V3=V2.setCell ⟨w.heap.size+1,0,none⟩ v8:=⟨_,rfl⟩
    rw[<-hV3];have hg3:V2.grownBy V3 (some (w.heap.size+1)):=by rw[hV3];exact eE V2 _ _
    have hK3:Boxed V3 (w.heap.size+1) 129 v8:=by rw[hV3];exact HK2.out.set _
    have hf3:Buf B v8 (L5++kt) V3:=hf8.grown hg3 (hf8.ne_box HK2.out uAv);have hk2s:KW U8s B 0 V V2:=HK05.out.trans (HW2.out.mono fun _ h=>.inl h);have hkw:∀Y,KW U8s B Y V V3:=fun Y=>(hk2s.up (aQ Y)).trans (KW.grown hg3 uAu HK2.out.lt HK2.out (.inr rfl))
    have hw3:KW U8 B 0 w V3:=(HW5.out.trans HW2.out).new hg3 uAu uAu;refine⟨⟨(hkw 0).2.1,fun g o hg ho hc=>(hkw w5.heap.size).2.2.2 g o hg ho hc⟩,hkw _,⟨⟨v8,hK3,?_⟩,hw3⟩,HBV.out.trans (hkw 0).1⟩;have he:l++bt8 (a.k+1)::eP a.k (a.ks.take (pre++[((1,s2,s3),xc)]).length) (a.xs.take (pre++[((1,s2,s3),xc)]).length)=L5++kt:=by
      rw[aD,bM,<-HQ.out,HSN.out];rw[HLL5.out,HLL.out];simp
    first|rw[he]|(rw[hk,show(5:Int)+1=6 from by decide]at he;rw[he])
    exact hf3
  case done=>
    exact Aa1
theorem aDD (a:Tr):vC a:=by
 induction a using fS with
 |h k n t ks xs ih=>
  intro w x B v l ha;have hk:=ha.kind;by_cases h3:(Tr.nd k n t ks xs).k<=3
  ·exact aGe _ h3 w x B v l ha
  by_cases h4:(Tr.nd k n t ks xs).k=4
  ·exact aHh _ h4 ih w x B v l ha
  by_cases h5:(Tr.nd k n t ks xs).k=5
  ·exact aHj _ h5 ih w x B v l ha
  ·exact aHi (Tr.nd k n t ks xs) uAu ih w x B v l ha
end Go.Proofs.YtengibnpebfblaaGreatDoor
