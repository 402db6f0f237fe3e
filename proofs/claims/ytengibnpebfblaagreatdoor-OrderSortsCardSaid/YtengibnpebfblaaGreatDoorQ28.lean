import Derived.Test.YtengibnpebfblaaGreatDoorQ0
import Derived.Test.YtengibnpebfblaaGreatDoorQ27
set_option maxRecDepth 1000000
set_option maxHeartbeats 8000000
set_option linter.unusedSimpArgs false
namespace Go.Proofs.YtengibnpebfblaaGreatDoor
open Go.RowKit Go.Shelf
attribute [local go_sem] fK
abbrev Stp:=Int×Int×ByteArray
abbrev rP (s:Stp):Array Value:=#[.int .i64 s.1,.int .i64 s.2.1,.string s.2.2]
abbrev aH9 (e:Stp×Cel):Array Value:=#[.agg (rP e.1),.agg (aX e.2)]
def fZ (a:Tr) (l:List Cel):List (Stp×Cel):=(pA a).zip l
structure vD (Ts:TypeId->Prop):Prop where
 int:¬Ts 3
 out:¬Ts 135
 rope:¬Ts 157
 node:¬Ts 86
 entry:¬Ts 161
def mkP (e:Nat×Cel):Stp×Cel:=(((0:Int),(e.1:Int),(⟨#[]⟩:ByteArray)),e.2)
theorem yN {a:Tr} {l:List Cel} (h4:a.k=4) (hl:l.length=a.xs.length):fZ a l=(fM l).map mkP:=by
 unfold fZ pA;rw[if_pos h4,<-hl];apply List.ext_getElem?;intro i;rw[List.getElem?_map];rcases cZ i l.length with h|h
 ·rw[List.getElem?_eq_getElem uDv,aAF,aGR _ _ h]
  simp[mkP]
 ·rw[List.getElem?_eq_none uDv,List.getElem?_eq_none (by rw[aFj];omega)]
  rfl
def mkM (kd:Int) (e:Ent):Stp×Cel:=((kd,(0:Int),e.1),e.2)
theorem vK {a:Tr} {l:List Cel} (h:a.k=5\/a.k=6):fZ a l=(pC a.k a.ks a.xs l).map (mkM (a.k-4)):=by
 have hz:∀(M:List ByteArray) (kd:Int),(M.map fun y=>(kd,(0:Int),y)).zip l=(M.zip l).map (mkM kd):=fun M kd=>by
  rw[List.zip_map_left];apply jX;intro e _;rfl
 unfold fZ pA pC wR;rcases h with h|h
 ·rw[if_neg uAu,if_pos h,if_pos h,show a.k-4=1 by omega]
  exact hz _ _
 ·rw[if_neg uAu,if_neg uAu,if_neg uAu,if_pos h,show a.k-4=2 by omega]
  have e:(a.xs.map fun x=>((2:Int),(0:Int),(⟨(dG x).toArray⟩:ByteArray)))=(a.xs.map kB).map fun y=>((2:Int),(0:Int),y):=by rw[kC];rfl
  first|rw[e]|skip
  exact hz _ _
theorem mM {Ts:TypeId->Prop} {A B:World} {row:Option Nat} {Y Z:Nat} (hg:A.grownBy B row) (hYA:Y<=A.heap.size) (hY:Y<=Z) (hr:∀r,row=some r->Z<=r/\∃o:Obj,A.heap[r]? =some o/\o.isCells=false):IKW Ts Y A B:=by
 cases row with
 |none=>exact⟨hg.size,⟨hg.os,hg.tape,hg.output,hg.size,fun k hk=>hg.block k (cQ hk hYA) uBu⟩,fun k cs T fr e _=>(hg.block k (gZ e) uBu).trans e⟩
 |some r=>
  obtain⟨h1,o,h2,h3⟩:=hr r rfl;exact IKW.grown hg (aG hY h1) (gZ h2) (fun cs T fr e=>by rw[h2]at e;cases e;cases h3)
theorem oO (n:Nat) (x:Cel) (w:World):
  CallsIn Fence.wide n Tryz.prog 45 #[.agg (aX x)] w fun e w'=>e=.returned (.func (.func 77) #[] #[.pointer (some ⟨w.heap.size,0,none⟩)])/\w'=w.alloc (.cells (aX x) 35):=by
 refine iF Tryz.func45 rfl trivial ?_ rfl;simp only[Tryz.ntmps45,cA,aL,bG,Nat.reduceAdd,Nat.reduceSub,bY,bW,cM,cD,bD,bC];gi_wp2
 go_ret;exact⟨rfl,rfl⟩
theorem aCu {Ts:TypeId->Prop} (hTs:vD Ts) (Bs n₀:Nat) (a:Tr) (x:Cel) (ha:dW a) (h4:a.k=4) (w:World) (hn₀:n₀<=w.heap.size) (hX:w.heap[Bs]? =some (.cells (aX x) 35 (0,0))) (hv:VAt (fun g=>g<n₀) w a x):
  ∃l,gC (fun g=>g<n₀) w a.xs l/\aCg Tryz.prog 77 #[.pointer (some ⟨Bs,0,none⟩)] aH9 (fun Y A B=>KW Ts n₀ Y A B) (fun Y A B=>IKW Ts Y A B) (fun ys=>ys=fZ a l) (fun pre=>pre<+:fZ a l) w:=by
 obtain⟨b,la,hp,hb,hla,rc,mc,d,fr,sd,nn,hbk,hsd,hr,hm,hd⟩:=hv.parts uAu;refine⟨la,hla,?_⟩;intro l J W hW hA hY h0 m;have hBl:=(gZ hX)
 have hxW:=(hW.block _ hBl).trans hX;have hbW:=kW hW hbk;obtain⟨W2,hW2⟩:∃W2,(W.alloc (.cells #[.func (.yield l) #[] #[]] 135)).alloc (.cells #[.int .i64 0] 3)=W2:=⟨_,rfl⟩
 obtain⟨hb2,hy2,hk2,hs2⟩:=eR hW2;have hx2:=kW hb2 hxW;have hB2:=kW hb2 hbW;have hr2:dS (fun g=>g<n₀) W2 rc la:=by have:=hr.later (tW hW hb2);rwa[aBN h4]at this
 have hkB:Boxed W2 (W.heap.size+1) 3 (.int .i64 0):=hk2;have hI2:=hkB.cell;have fI2:=hkB.frozen;obtain⟨W3,hW3⟩:∃W3,W3=W2.setCell ⟨W.heap.size+1,0,none⟩ (.int .i64 1):=⟨_,rfl⟩
 have HKA:=iH (fun W=>cY.1 ((cY (n:=5)).2 (oE W x)));rw[hv.k,h4]at HKA;refine eW Tryz.func77 rfl trivial ?_ rfl;simp only[Tryz.ntmps77,cA,aL,bG,Nat.reduceAdd,Nat.reduceSub,bY,bW,cM,cD,bD,bC];refine gH.2 ?_;go_upto_region 6 with(first
  |(rw[hW2])
  |(rw[<-hW3];have hX3:W3.heap[Bs]? =some (.cells (aX x) 35 (0,0)):=uDu;have HX3:=iH hX3;clear hX3)
  |(refine bR rfl 35 _ rfl Bs rfl 35 _ _ _ HX3.out Tryz.underlying35 rfl aR ?_)
  |(go_at_call 44;(with_reducible refine(HKA.out _).mono ?_);rintro r w4 ⟨rfl,hb4⟩;have HB4:=iH hb4;clear hb4))
 have hb4:=HB4.out;have hg3:W2.grownBy W3 (some (W.heap.size+1)):=by rw[hW3];exact eE W2 _ _
 have hsz3:W3.heap.size=W2.heap.size:=by rw[hW3];simp[World.setCell]
 have hb3:Below W.heap.size W2 W3:=(aY _ W2).grown hg3 uAu (fun k e=>by cases e;omega);have hbb:Below W.heap.size W w4:=(hb2.trans hb3).trans (hb4.mono uAu);have hJ4:J [] w4:=hA _ _ _ (hA _ _ _ (hA _ _ _ h0 (IKW.below hb2 (aE _))) (IKW.grown hg3 (zR _) uAu (fun cs T fr e=>by
  rw[show W2.heap[W.heap.size+1]? =_ from hk2]at e;simp only[cC,dU]at e;rw[<-e.2.1];exact hTs.int))) (IKW.below hb4 uAu)
 have hyb4:Boxed w4 W.heap.size 135 (.func (.yield l) #[] #[]):=(hb4.block _ uAu).trans ((hg3.block _ uAu uBu).trans hy2);have hxb4:=kW hb4 HX3.out;have cp4:w4.cell? ⟨Bs,3,none⟩=some (.pointer (some ⟨b,0,none⟩)):=aK hxb4 (by rw[<-hp];rfl);have hlw:=hW.size;have hbk4:=kW hbb hbW;have HRG:=iH (aA7 hr.size hbk4);have HZR:=iH hr.size;have hr4:dS (fun g=>g<n₀) w4 rc la:=by
  have:=hr.low ((hW.mono hn₀).trans (hbb.mono uAu));rwa[aBN h4]at this
 have HALL:=iH (fun w=>cY.1 (aIL 5 rc w));have hsz4:W.heap.size+2<=w4.heap.size:=by have:=hb4.size;omega
 clear hW3 hg3 hsz3 hb3 HB4 hb4 hW2 hb2 hy2 hk2 hs2 hx2 hB2 hr2 hkB hI2 fI2 HKA HX3 hxb4;go_wp2_with (first
  |(refine dA rfl 88 _ rfl b 0 rfl rc.toList _ HRG.out Tryz.underlying88 rfl (by rw[bB,HZR.out];exact eL) ?_)
  |(go_at_call 78;(with_reducible refine(HALL.out _).mono ?_);rintro e w' ⟨rfl,rfl⟩))
 obtain⟨W5,hW5⟩:∃W5,W5=w4.alloc (.cells rc 88):=⟨_,rfl⟩
 obtain⟨Q,hQ⟩:∃Q,Q=w4.heap.size:=⟨_,rfl⟩
 have hb5:Below w4.heap.size w4 W5:=by rw[hW5];exact Below.newly' _ _
 have hA5:W5.heap[Q]? =some (.cells rc 88 (0,0)):=by rw[hW5,hQ];exact aF _ _
 have hsz5:W5.heap.size=Q+1:=by rw[hW5,hQ];simp
 have hJ5:J [] W5:=hA _ _ _ hJ4 (IKW.below hb5 uAu);have hyb5:Boxed W5 W.heap.size 135 (.func (.yield l) #[] #[]):=(hb5.block _ hyb4.lt).trans hyb4;have hr5:=hr4.low (hb5.mono (show n₀<=w4.heap.size by omega));have hlen:=ha.len;have hll:=fG hla;rw[<-hW5,<-hQ];have hQW:W.heap.size+2<=Q:=by omega
 clear hW5 hb5 hJ4 hyb4 hr4 hQ hsz4 cp4 hbk4 HRG;refine(gH (n:=5)).1 ?_;refine kJ (n₀:=n₀) uAu (aAr Ts n₀) (gf:=104) (lb:=#[.pointer (some ⟨Q,0,none⟩)]) rfl (lX Tryz.func104 hO rfl)
  (aMv Q n₀ (aL5 n₀ hTs.int hTs.rope hTs.node) rc la W5 uAu hA5 hr5 uAu).n (fun _=>rfl)
  (fun(pre:List (Nat×Cel)) V=>J (pre.map mkP) V/\Boxed V W.heap.size 135 (.func (.yield l) #[] #[]))
  (fun s A B row hs hg hr=>⟨hA _ _ _ hs.1 (mM hg (mQ hs.2.lt) (by rw[hsz5];omega) hr),aED W.heap.size 135 (fun(_:Unit)=>Value.func (.yield l) #[] #[]) () A B row hs.2 hg (fun r e=>(hr r e).2)⟩)
  (fun s A B h hb=>⟨hA _ _ _ h.1 (hb.down uAu),(hb.2.1.block _ uAu).trans h.2⟩)
  (fun s A B h hb=>⟨hA _ _ _ h.1 (IKW.below hb (mQ h.2.lt)),(hb.block _ h.2.lt).trans h.2⟩)
  ⟨hJ5,hyb5⟩
  (fun x b V=>V.heap[b]? =some (.cells (aX x.2) 35 (0,0)))
  (fun x b A l o o' h1 h2 h=>by rw[cF (fun e=>by rw[e,h1]at h;cases h;cases h2)];exact h)
  (fun h hn=>KW.below h hn)
  (fun x' b'=>{tmps:=#[.func (.yield l) #[] #[],.pointer (some ⟨Bs,0,none⟩),.pointer (some ⟨W.heap.size,0,none⟩),.pointer (some ⟨W.heap.size+1,0,none⟩),.int .i64 (x'.1:Int),.pointer (some ⟨b',0,none⟩),undef,undef,.agg (aX x),.int .i64 4,.bool true,.bool true,undef,undef,undef,undef,.pointer (some ⟨Bs,3,none⟩),.pointer (some ⟨b,0,none⟩),.pointer (some ⟨b,0,none⟩),.pointer (some ⟨b,0,none⟩),.agg rc,.func (.func 104) #[] #[.pointer (some ⟨Q,0,none⟩)],.int .i64 (x'.1:Int),.agg (aX x'.2),undef,undef,undef,undef,undef,undef,undef,undef,undef,undef,undef,undef,undef,undef,undef,undef,undef,undef,undef,undef,undef],defers:=[]}) ?assign ?body ?done
 case assign=>
  intro k x V K hK;exact Af9
 case body=>
  rintro k pre x' b' V hVs ⟨hJV,hyb⟩ hst hpl;have hpp:(pre.map mkP)++[mkP x']<+:fZ a la:=by
   rw[yN h4 hll];have:=hpl.map mkP;simpa using this
  obtain⟨fn,tmps,assign,body,hy,hR⟩:=hY (5-1) (pre.map mkP) (mkP x') V hJV uAu hpp;dsimp only[aH9,rP,mkP]at hy;have cy:=hyb.cell;have HST:=iH hst;have HYB:=iH hyb;have HVS:Hid (Q+3<=V.heap.size):=by show _<=_;omega
  have HQW:=iH hQW;have HQ5:=iH hsz5;clear hst hpl hpp hJV hVs hyb hyb5 hJ5 hA5 hr5 hY hA h0;gi_wp2_with (first
   |(refine aFF rfl 35 _ rfl b' rfl 35 _ _ _ HST.out Tryz.underlying35 rfl aR ?_))
  refine RoundIn.mono (F:=Fence.wide.inRound k) hR ?_;rintro e V2 ⟨rfl,hJ2,hkw⟩;have HJ2:=iH hJ2;have HKW:=iH hkw;clear hJ2 hkw hy hR cy;gi_wp2
  have hq:=HQW.out;have hq5:=HQ5.out;have hkw:=HKW.out;refine⟨⟨hkw.2.1,fun g o hg ho hc=>hkw.2.2.2 g o uAu ho hc⟩,hkw.up uAu,?_,hkw.2.2.1 _ _ _ _ HYB.out hTs.out⟩;rw[bQ];exact HJ2.out
 case done=>
  rintro ys V rfl ⟨hJV,_⟩ hD;have HJ:=iH hJV;have HD:=iH hD;clear hJV hD;go_wp2_with fail
  have hgp:=eM V W5.heap.size (.deferred none);have hj:=hA _ _ _ HJ.out (mM (Y:=W.heap.size) (Z:=W5.heap.size) hgp uQw uAu (fun r e=>by cases e;exact⟨aE _,_,HD.out,rfl⟩));exact⟨by simp[Act.put],.inl ⟨_,_,rfl,jC HD.out,.tuple #[],rH rfl _ _ _,⟨_,rfl⟩,_,(yN h4 hll).symm,hj⟩⟩
theorem aCw {Ts:TypeId->Prop} (hTs:vD Ts) (Bs n₀:Nat) (a:Tr) (x:Cel) (ha:dW a) (h4:a.k=5) (w:World) (hn₀:n₀<=w.heap.size) (hX:w.heap[Bs]? =some (.cells (aX x) 35 (0,0))) (hv:VAt (fun g=>g<n₀) w a x) (hT:fW w):
  ∃l,gC (fun g=>g<n₀) w a.xs l/\aCg Tryz.prog 77 #[.pointer (some ⟨Bs,0,none⟩)] aH9 (fun Y A B=>KW Ts n₀ Y A B) (fun Y A B=>IKW Ts Y A B) (fun ys=>ys=fZ a l) (fun pre=>pre<+:fZ a l) w:=by
 obtain⟨b,la,hp,hb,hla,rc,mc,d,fr,sd,nn,hbk,hsd,hr,hm,hd⟩:=hv.parts uAu;refine⟨la,hla,?_⟩;intro l J W hW hA hY h0 m;have hBl:=(gZ hX)
 have hxW:=(hW.block _ hBl).trans hX;have hbW:=kW hW hbk;obtain⟨W2,hW2⟩:∃W2,(W.alloc (.cells #[.func (.yield l) #[] #[]] 135)).alloc (.cells #[.int .i64 0] 3)=W2:=⟨_,rfl⟩
 obtain⟨hb2,hy2,hk2,hs2⟩:=eR hW2;have hx2:=kW hb2 hxW;have hB2:=kW hb2 hbW;have hkB:Boxed W2 (W.heap.size+1) 3 (.int .i64 0):=hk2;have hI2:=hkB.cell;have fI2:=hkB.frozen;obtain⟨W3,hW3⟩:∃W3,W3=W2.setCell ⟨W.heap.size+1,0,none⟩ (.int .i64 1):=⟨_,rfl⟩
 have HKA:=iH (fun W=>cY.1 ((cY (n:=5)).2 (oE W x)));rw[hv.k,h4]at HKA;refine eW Tryz.func77 rfl trivial ?_ rfl;simp only[Tryz.ntmps77,cA,aL,bG,Nat.reduceAdd,Nat.reduceSub,bY,bW,cM,cD,bD,bC];refine gH.2 ?_;go_upto_region 11 with(first
  |(rw[hW2])
  |(rw[<-hW3];have hX3:W3.heap[Bs]? =some (.cells (aX x) 35 (0,0)):=uDu;have HX3:=iH hX3;clear hX3)
  |(refine bR rfl 35 _ rfl Bs rfl 35 _ _ _ HX3.out Tryz.underlying35 rfl aR ?_)
  |(go_at_call 44;(with_reducible refine(HKA.out _).mono ?_);rintro r w4 ⟨rfl,hb4⟩;have HB4:=iH hb4;clear hb4))
 have hb4:=HB4.out;have hg3:W2.grownBy W3 (some (W.heap.size+1)):=by rw[hW3];exact eE W2 _ _
 have hsz3:W3.heap.size=W2.heap.size:=by rw[hW3];simp[World.setCell]
 have hb3:Below W.heap.size W2 W3:=(aY _ W2).grown hg3 uAu (fun k e=>by cases e;omega);have hbb:Below W.heap.size W w4:=(hb2.trans hb3).trans (hb4.mono uAu);have hJ4:J [] w4:=hA _ _ _ (hA _ _ _ (hA _ _ _ h0 (IKW.below hb2 (aE _))) (IKW.grown hg3 (zR _) uAu (fun cs T fr e=>by
  rw[show W2.heap[W.heap.size+1]? =_ from hk2]at e;simp only[cC,dU]at e;rw[<-e.2.1];exact hTs.int))) (IKW.below hb4 uAu)
 have hyb4:Boxed w4 W.heap.size 135 (.func (.yield l) #[] #[]):=(hb4.block _ uAu).trans ((hg3.block _ uAu uBu).trans hy2);have hkb4:Boxed w4 (W.heap.size+1) 3 (.int .i64 1):=(hb4.block _ uAu).trans (show Boxed W3 _ _ _ by rw[hW3];exact hkB.set _);have hxb4:=kW hb4 HX3.out;have cp4:w4.cell? ⟨Bs,3,none⟩=some (.pointer (some ⟨b,0,none⟩)):=aK hxb4 (by rw[<-hp];rfl);have hlw:=hW.size;have hbk4:=kW hbb hbW;have HRG:=iH (oV hr.size hm.size hbk4);have HZR:=iH hm.size;have hr4:eQ (fun g=>g<n₀) w4 sd nn (pC a.k a.ks a.xs la) mc:=hm.kp (Kq.kp (Kq.low ((hW.mono hn₀).trans (hbb.mono uAu)) fun _ h=>h));have HALL:=iH (fun w=>cY.1 (aDi 5 mc w));have hsz4:W.heap.size+2<=w4.heap.size:=by have:=hb4.size;omega
 clear hW3 hg3 hsz3 hb3 HB4 hb4 hW2 hb2 hy2 hk2 hs2 hx2 hB2 hkB hI2 fI2 HKA HX3 hxb4;go_wp2_with (first
  |(refine dA rfl 98 _ rfl b 4 rfl mc.toList _ HRG.out Tryz.underlying98 rfl (by rw[bB,HZR.out];exact fV) ?_)
  |(go_at_call 79;(with_reducible refine(HALL.out _).mono ?_);rintro e w' ⟨rfl,rfl⟩))
 obtain⟨W5,hW5⟩:∃W5,W5=w4.alloc (.cells mc 98):=⟨_,rfl⟩
 obtain⟨Q,hQ⟩:∃Q,Q=w4.heap.size:=⟨_,rfl⟩
 have hb5:Below w4.heap.size w4 W5:=by rw[hW5];exact Below.newly' _ _
 have hA5:W5.heap[Q]? =some (.cells mc 98 (0,0)):=by rw[hW5,hQ];exact aF _ _
 have hsz5:W5.heap.size=Q+1:=by rw[hW5,hQ];simp
 have hJ5:J [] W5:=hA _ _ _ hJ4 (IKW.below hb5 uAu);have hkb5:Boxed W5 (W.heap.size+1) 3 (.int .i64 1):=(hb5.block _ hkb4.lt).trans hkb4;have hyb5:Boxed W5 W.heap.size 135 (.func (.yield l) #[] #[]):=(hb5.block _ hyb4.lt).trans hyb4;have hr5:=hr4.kp (Kq.kp (Kq.low (hb5.mono (show n₀<=w4.heap.size by omega)) fun _ h=>h));have hlen:=ha.len;have hll:=fG hla;have hmk:=ha.mkeys (.inl h4);have hT5:fW W5:=(hT.below hW).below (hbb.trans (hb5.mono uAu));rw[<-hW5,<-hQ];have hQW:W.heap.size+2<=Q:=by omega
 clear hW5 hb5 hJ4 hyb4 hkb4 hr4 hQ hsz4 cp4 hbk4 HRG;refine(gH (n:=5)).1 ?_;refine kJ (n₀:=n₀) uAu (aAr Ts n₀) (gf:=107) (lb:=#[.pointer (some ⟨Q,0,none⟩)]) rfl (lX Tryz.func107 hO rfl)
  (aHV Q n₀ (aAs n₀ hTs.entry) sd nn (pC a.k a.ks a.xs la) mc W5 uAu hA5 hr5 (xZ hmk.2.1 (hmk.1.trans hll.symm)) (by rw[pC,dN];omega) hT5).n (fun _=>rfl)
  (fun(pre:List Ent) V=>J (pre.map (mkM 1)) V/\Boxed V W.heap.size 135 (.func (.yield l) #[] #[])/\Boxed V (W.heap.size+1) 3 (.int .i64 1))
  (fun s A B row hs hg hr=>⟨hA _ _ _ hs.1 (mM hg (mQ hs.2.1.lt) (by rw[hsz5];omega) hr),aED W.heap.size 135 (fun(_:Unit)=>Value.func (.yield l) #[] #[]) () A B row hs.2.1 hg (fun r e=>(hr r e).2),aED (W.heap.size+1) 3 (fun(_:Unit)=>Value.int .i64 1) () A B row hs.2.2 hg (fun r e=>(hr r e).2)⟩)
  (fun s A B h hb=>⟨hA _ _ _ h.1 (hb.down uAu),(hb.2.1.block _ uAu).trans h.2.1,(hb.2.1.block _ uAu).trans h.2.2⟩)
  (fun s A B h hb=>⟨hA _ _ _ h.1 (IKW.below hb (mQ h.2.1.lt)),(hb.block _ h.2.1.lt).trans h.2.1,(hb.block _ h.2.2.lt).trans h.2.2⟩)
  ⟨hJ5,hyb5,hkb5⟩
  (fun x b V=>V.heap[b]? =some (.cells (aX x.2) 35 (0,0)))
  (fun x b A l o o' h1 h2 h=>by rw[cF (fun e=>by rw[e,h1]at h;cases h;cases h2)];exact h)
  (fun h hn=>KW.below h hn)
  (fun x' b'=>{tmps:=#[.func (.yield l) #[] #[],.pointer (some ⟨Bs,0,none⟩),.pointer (some ⟨W.heap.size,0,none⟩),.pointer (some ⟨W.heap.size+1,0,none⟩),undef,undef,.string x'.1,.pointer (some ⟨b',0,none⟩),.agg (aX x),.int .i64 5,.bool false,.bool false,.bool false,.bool false,.bool true,.bool true,undef,undef,undef,undef,undef,undef,undef,undef,undef,undef,undef,undef,undef,undef,.pointer (some ⟨Bs,3,none⟩),.pointer (some ⟨b,0,none⟩),.pointer (some ⟨b,0,none⟩),.pointer (some ⟨b,4,none⟩),.agg mc,.func (.func 107) #[] #[.pointer (some ⟨Q,0,none⟩)],.string x'.1,.agg (aX x'.2),undef,undef,undef,undef,undef,undef,undef],defers:=[]}) ?assign ?body ?done
 case assign=>
  intro k x V K hK;exact Af9
 case body=>
  rintro k pre x' b' V hVs ⟨hJV,hyb,hkb⟩ hst hpl;have hpp:(pre.map (mkM 1))++[(mkM 1) x']<+:fZ a la:=by
   rw[vK (.inl h4),show a.k-4=1 by omega];have:=hpl.map (mkM 1);simpa using this
  obtain⟨fn,tmps,assign,body,hy,hR⟩:=hY (5-1) (pre.map (mkM 1)) ((mkM 1) x') V hJV uAu hpp;exact Aa9
 case done=>
  rintro ys V rfl ⟨hJV,_⟩ hD;have HJ:=iH hJV;have HD:=iH hD;clear hJV hD;go_wp2_with fail
  have hgp:=eM V W5.heap.size (.deferred none);have hj:=hA _ _ _ HJ.out (mM (Y:=W.heap.size) (Z:=W5.heap.size) hgp uQw uAu (fun r e=>by cases e;exact⟨aE _,_,HD.out,rfl⟩));exact⟨by simp[Act.put],.inl ⟨_,_,rfl,jC HD.out,.tuple #[],rH rfl _ _ _,⟨_,rfl⟩,_,(by rw[vK (.inl h4),show a.k-4=1 by omega]),hj⟩⟩
theorem aCv {Ts:TypeId->Prop} (hTs:vD Ts) (Bs n₀:Nat) (a:Tr) (x:Cel) (ha:dW a) (h4:a.k=6) (w:World) (hn₀:n₀<=w.heap.size) (hX:w.heap[Bs]? =some (.cells (aX x) 35 (0,0))) (hv:VAt (fun g=>g<n₀) w a x) (hT:fW w):
  ∃l,gC (fun g=>g<n₀) w a.xs l/\aCg Tryz.prog 77 #[.pointer (some ⟨Bs,0,none⟩)] aH9 (fun Y A B=>KW Ts n₀ Y A B) (fun Y A B=>IKW Ts Y A B) (fun ys=>ys=fZ a l) (fun pre=>pre<+:fZ a l) w:=by
 obtain⟨b,la,hp,hb,hla,rc,mc,d,fr,sd,nn,hbk,hsd,hr,hm,hd⟩:=hv.parts uAu;refine⟨la,hla,?_⟩;intro l J W hW hA hY h0 m;have hBl:=(gZ hX)
 have hxW:=(hW.block _ hBl).trans hX;have hbW:=kW hW hbk;obtain⟨W2,hW2⟩:∃W2,(W.alloc (.cells #[.func (.yield l) #[] #[]] 135)).alloc (.cells #[.int .i64 0] 3)=W2:=⟨_,rfl⟩
 obtain⟨hb2,hy2,hk2,hs2⟩:=eR hW2;have hx2:=kW hb2 hxW;have hB2:=kW hb2 hbW;have hkB:Boxed W2 (W.heap.size+1) 3 (.int .i64 0):=hk2;have hI2:=hkB.cell;have fI2:=hkB.frozen;obtain⟨W3,hW3⟩:∃W3,W3=W2.setCell ⟨W.heap.size+1,0,none⟩ (.int .i64 1):=⟨_,rfl⟩
 have HKA:=iH (fun W=>cY.1 ((cY (n:=5)).2 (oE W x)));rw[hv.k,h4]at HKA;refine eW Tryz.func77 rfl trivial ?_ rfl;simp only[Tryz.ntmps77,cA,aL,bG,Nat.reduceAdd,Nat.reduceSub,bY,bW,cM,cD,bD,bC];refine gH.2 ?_;go_upto_region 11 with(first
  |(rw[hW2])
  |(rw[<-hW3];have hX3:W3.heap[Bs]? =some (.cells (aX x) 35 (0,0)):=uDu;have HX3:=iH hX3;clear hX3;have HKB3:Hid (Boxed W3 (W.heap.size+1) 3 (.int .i64 1)):=(by show Boxed _ _ _ _;rw[hW3];exact hkB.set _))
  |(refine bR rfl 35 _ rfl Bs rfl 35 _ _ _ HX3.out Tryz.underlying35 rfl aR ?_)
  |(go_at_call 44;(with_reducible refine(HKA.out _).mono ?_);rintro r wk ⟨rfl,hb4⟩;have HB4:=iH hb4;have hkB3:Boxed W3 (W.heap.size+1) 3 (.int .i64 1):=HKB3.out;have cI4:=Boxed.cell ((hb4.block _ hkB3.lt).trans hkB3);have fI4:=Boxed.frozen ((hb4.block _ hkB3.lt).trans hkB3);clear hb4 hkB3))
 have hbk0:=HB4.out;have hkBk:Boxed wk (W.heap.size+1) 3 (.int .i64 1):=(hbk0.block _ HKB3.out.lt).trans HKB3.out;obtain⟨w4,hw4⟩:∃w4,w4=wk.setCell ⟨W.heap.size+1,0,none⟩ (.int .i64 2):=⟨_,rfl⟩
 rw[<-hw4];have hkb4:Boxed w4 (W.heap.size+1) 3 (.int .i64 2):=by rw[hw4];exact hkBk.set _
 have hg4:wk.grownBy w4 (some (W.heap.size+1)):=by rw[hw4];exact eE wk _ _
 have hsz4k:w4.heap.size=wk.heap.size:=by rw[hw4];simp[World.setCell]
 have hg3:W2.grownBy W3 (some (W.heap.size+1)):=by rw[hW3];exact eE W2 _ _
 have hsz3:W3.heap.size=W2.heap.size:=by rw[hW3];simp[World.setCell]
 have hb3:Below W.heap.size W2 W3:=(aY _ W2).grown hg3 uAu (fun k e=>by cases e;omega);have hbb:Below W.heap.size W w4:=((hb2.trans hb3).trans (hbk0.mono uAu)).trans ((aY _ wk).grown hg4 (by have:=hbk0.size;omega) (fun k e=>by cases e;omega));have hJ4:J [] wk:=hA _ _ _ (hA _ _ _ (hA _ _ _ h0 (IKW.below hb2 (aE _))) (IKW.grown hg3 (zR _) uAu (fun cs T fr e=>by
  rw[show W2.heap[W.heap.size+1]? =_ from hk2]at e;simp only[cC,dU]at e;rw[<-e.2.1];exact hTs.int))) (IKW.below hbk0 uAu)
 replace hJ4:J [] w4:=hA _ _ _ hJ4 (IKW.grown hg4 (zR _) hkBk.lt (fun cs T fr e=>by
  rw[show wk.heap[W.heap.size+1]? =_ from hkBk]at e;simp only[cC,dU]at e;rw[<-e.2.1];exact hTs.int))
 have hyb4:Boxed w4 W.heap.size 135 (.func (.yield l) #[] #[]):=(hg4.block _ (by have:=hbk0.size;omega) uBu).trans ((hbk0.block _ uAu).trans ((hg3.block _ uAu uBu).trans hy2));have hxb4:=(hg4.block _ (by have:=(gZ HX3.out);have:=hbk0.size;omega) (by simp only[ne_eq,cC];have:=hW.size;omega)).trans (kW hbk0 HX3.out);have cp4:w4.cell? ⟨Bs,3,none⟩=some (.pointer (some ⟨b,0,none⟩)):=aK hxb4 (by rw[<-hp];rfl);have hlw:=hW.size;have hbk4:=kW hbb hbW;have HRG:=iH (oV hr.size hm.size hbk4);have HZR:=iH hm.size;have hr4:eQ (fun g=>g<n₀) w4 sd nn (pC a.k a.ks a.xs la) mc:=hm.kp (Kq.kp (Kq.low ((hW.mono hn₀).trans (hbb.mono uAu)) fun _ h=>h));have HALL:=iH (fun w=>cY.1 (aDi 5 mc w));have hsz4:W.heap.size+2<=w4.heap.size:=by have:=hbk0.size;omega
 clear hW3 hg3 hsz3 hb3 HB4 hbk0 hW2 cI4 fI4 hw4 hg4 hsz4k hkBk HKB3 hb2 hy2 hk2 hs2 hx2 hB2 hkB hI2 fI2 HKA HX3 hxb4;go_wp2_with (first
  |(refine dA rfl 98 _ rfl b 4 rfl mc.toList _ HRG.out Tryz.underlying98 rfl (by rw[bB,HZR.out];exact fV) ?_)
  |(go_at_call 79;(with_reducible refine(HALL.out _).mono ?_);rintro e w' ⟨rfl,rfl⟩))
 obtain⟨W5,hW5⟩:∃W5,W5=w4.alloc (.cells mc 98):=⟨_,rfl⟩
 obtain⟨Q,hQ⟩:∃Q,Q=w4.heap.size:=⟨_,rfl⟩
 have hb5:Below w4.heap.size w4 W5:=by rw[hW5];exact Below.newly' _ _
 have hA5:W5.heap[Q]? =some (.cells mc 98 (0,0)):=by rw[hW5,hQ];exact aF _ _
 have hsz5:W5.heap.size=Q+1:=by rw[hW5,hQ];simp
 have hJ5:J [] W5:=hA _ _ _ hJ4 (IKW.below hb5 uAu);have hkb5:Boxed W5 (W.heap.size+1) 3 (.int .i64 2):=(hb5.block _ hkb4.lt).trans hkb4;have hyb5:Boxed W5 W.heap.size 135 (.func (.yield l) #[] #[]):=(hb5.block _ hyb4.lt).trans hyb4;have hr5:=hr4.kp (Kq.kp (Kq.low (hb5.mono (show n₀<=w4.heap.size by omega)) fun _ h=>h));have hlen:=ha.len;have hll:=fG hla;have hmk:=ha.mkeys (.inr h4);have hT5:fW W5:=(hT.below hW).below (hbb.trans (hb5.mono uAu));rw[<-hW5,<-hQ];have hQW:W.heap.size+2<=Q:=by omega
 clear hW5 hb5 hJ4 hyb4 hkb4 hr4 hQ hsz4 cp4 hbk4 HRG;refine(gH (n:=5)).1 ?_;refine kJ (n₀:=n₀) uAu (aAr Ts n₀) (gf:=107) (lb:=#[.pointer (some ⟨Q,0,none⟩)]) rfl (lX Tryz.func107 hO rfl)
  (aHV Q n₀ (aAs n₀ hTs.entry) sd nn (pC a.k a.ks a.xs la) mc W5 uAu hA5 hr5 (xZ hmk.2.1 (hmk.1.trans hll.symm)) (by rw[pC,dN];omega) hT5).n (fun _=>rfl)
  (fun(pre:List Ent) V=>J (pre.map (mkM 2)) V/\Boxed V W.heap.size 135 (.func (.yield l) #[] #[])/\Boxed V (W.heap.size+1) 3 (.int .i64 2))
  (fun s A B row hs hg hr=>⟨hA _ _ _ hs.1 (mM hg (mQ hs.2.1.lt) (by rw[hsz5];omega) hr),aED W.heap.size 135 (fun(_:Unit)=>Value.func (.yield l) #[] #[]) () A B row hs.2.1 hg (fun r e=>(hr r e).2),aED (W.heap.size+1) 3 (fun(_:Unit)=>Value.int .i64 2) () A B row hs.2.2 hg (fun r e=>(hr r e).2)⟩)
  (fun s A B h hb=>⟨hA _ _ _ h.1 (hb.down uAu),(hb.2.1.block _ uAu).trans h.2.1,(hb.2.1.block _ uAu).trans h.2.2⟩)
  (fun s A B h hb=>⟨hA _ _ _ h.1 (IKW.below hb (mQ h.2.1.lt)),(hb.block _ h.2.1.lt).trans h.2.1,(hb.block _ h.2.2.lt).trans h.2.2⟩)
  ⟨hJ5,hyb5,hkb5⟩
  (fun x b V=>V.heap[b]? =some (.cells (aX x.2) 35 (0,0)))
  (fun x b A l o o' h1 h2 h=>by rw[cF (fun e=>by rw[e,h1]at h;cases h;cases h2)];exact h)
  (fun h hn=>KW.below h hn)
  (fun x' b'=>{tmps:=#[.func (.yield l) #[] #[],.pointer (some ⟨Bs,0,none⟩),.pointer (some ⟨W.heap.size,0,none⟩),.pointer (some ⟨W.heap.size+1,0,none⟩),undef,undef,.string x'.1,.pointer (some ⟨b',0,none⟩),.agg (aX x),.int .i64 6,.bool false,.bool false,.bool true,.bool true,undef,undef,undef,undef,undef,undef,undef,undef,undef,undef,undef,undef,undef,undef,undef,undef,.pointer (some ⟨Bs,3,none⟩),.pointer (some ⟨b,0,none⟩),.pointer (some ⟨b,0,none⟩),.pointer (some ⟨b,4,none⟩),.agg mc,.func (.func 107) #[] #[.pointer (some ⟨Q,0,none⟩)],.string x'.1,.agg (aX x'.2),undef,undef,undef,undef,undef,undef,undef],defers:=[]}) ?assign ?body ?done
 case assign=>
  intro k x V K hK;exact Af9
 case body=>
  rintro k pre x' b' V hVs ⟨hJV,hyb,hkb⟩ hst hpl;have hpp:(pre.map (mkM 2))++[(mkM 2) x']<+:fZ a la:=by
   rw[vK (.inr h4),show a.k-4=2 by omega];have:=hpl.map (mkM 2);simpa using this
  obtain⟨fn,tmps,assign,body,hy,hR⟩:=hY (5-1) (pre.map (mkM 2)) ((mkM 2) x') V hJV uAu hpp;exact Aa9
 case done=>
  rintro ys V rfl ⟨hJV,_⟩ hD;have HJ:=iH hJV;have HD:=iH hD;clear hJV hD;go_wp2_with fail
  have hgp:=eM V W5.heap.size (.deferred none);have hj:=hA _ _ _ HJ.out (mM (Y:=W.heap.size) (Z:=W5.heap.size) hgp uQw uAu (fun r e=>by cases e;exact⟨aE _,_,HD.out,rfl⟩));exact⟨by simp[Act.put],.inl ⟨_,_,rfl,jC HD.out,.tuple #[],rH rfl _ _ _,⟨_,rfl⟩,_,(by rw[vK (.inr h4),show a.k-4=2 by omega]),hj⟩⟩
theorem aB7 {Ts:TypeId->Prop} (hTs:vD Ts) (Bs n₀:Nat) (a:Tr) (x:Cel) (h3:a.k<=3) (w:World) (hX:w.heap[Bs]? =some (.cells (aX x) 35 (0,0))) (hv:VAt (fun g=>g<n₀) w a x):
  aCg Tryz.prog 77 #[.pointer (some ⟨Bs,0,none⟩)] aH9 (fun Y A B=>KW Ts n₀ Y A B) (fun Y A B=>IKW Ts Y A B) (fun ys=>ys=fZ a []) (fun pre=>pre<+:fZ a []) w:=by
 intro l J W hW hA hY h0 m;have hBl:=(gZ hX)
 have hxW:=(hW.block _ hBl).trans hX;obtain⟨W2,hW2⟩:∃W2,(W.alloc (.cells #[.func (.yield l) #[] #[]] 135)).alloc (.cells #[.int .i64 0] 3)=W2:=⟨_,rfl⟩
 obtain⟨hb2,hy2,hk2,hs2⟩:=eR hW2;have hx2:=kW hb2 hxW;have hkB:Boxed W2 (W.heap.size+1) 3 (.int .i64 0):=hk2;have hI2:=hkB.cell;have fI2:=hkB.frozen;obtain⟨W3,hW3⟩:∃W3,W3=W2.setCell ⟨W.heap.size+1,0,none⟩ (.int .i64 1):=⟨_,rfl⟩
 have HKA:=iH (fun W=>cY.1 ((cY (n:=5)).2 (oE W x)));rw[hv.k]at HKA;obtain⟨k,hk⟩:∃k,k=a.k:=⟨_,rfl⟩
 rw[<-hk]at HKA;have n4:¬k=4:=by omega
 have n5:¬k=5:=by omega
 have n6:¬k=6:=by omega
 clear hY;refine eW Tryz.func77 rfl trivial ?_ rfl;simp only[Tryz.ntmps77,cA,aL,bG,Nat.reduceAdd,Nat.reduceSub,bY,bW,cM,cD,bD,bC];refine gH.2 ?_;go_wp2_with (first
  |(rw[hW2])
  |(rw[<-hW3];have hX3:W3.heap[Bs]? =some (.cells (aX x) 35 (0,0)):=uDu;have HX3:=iH hX3;clear hX3)
  |(refine bR rfl 35 _ rfl Bs rfl 35 _ _ _ HX3.out Tryz.underlying35 rfl aR ?_)
  |(go_at_call 44;(with_reducible refine(HKA.out _).mono ?_);rintro r w4 ⟨rfl,hb4⟩;have HB4:=iH hb4;clear hb4))
 have hb4:=HB4.out;have hg3:W2.grownBy W3 (some (W.heap.size+1)):=by rw[hW3];exact eE W2 _ _
 have hsz3:W3.heap.size=W2.heap.size:=by rw[hW3];simp[World.setCell]
 have hJ4:J [] w4:=hA _ _ _ (hA _ _ _ (hA _ _ _ h0 (IKW.below hb2 (aE _))) (IKW.grown hg3 (zR _) uAu (fun cs T fr e=>by
  rw[show W2.heap[W.heap.size+1]? =_ from hk2]at e;simp only[cC,dU]at e;rw[<-e.2.1];exact hTs.int))) (IKW.below hb4 uAu)
 have he:fZ a []=[]:=by unfold fZ;exact List.zip_nil_right
 rw[he];exact⟨.tuple #[],rH rfl _ _ _,⟨_,rfl⟩,_,rfl,hJ4⟩
theorem rU {Ts:TypeId->Prop} (hTs:vD Ts) (Bs n₀:Nat) (a:Tr) (x:Cel) (ha:dW a) (w:World) (hn₀:n₀<=w.heap.size) (hX:w.heap[Bs]? =some (.cells (aX x) 35 (0,0))) (hv:VAt (fun g=>g<n₀) w a x) (hT:fW w):
  ∃l,gC (fun g=>g<n₀) w a.xs l/\aCg Tryz.prog 77 #[.pointer (some ⟨Bs,0,none⟩)] aH9 (fun Y A B=>KW Ts n₀ Y A B) (fun Y A B=>IKW Ts Y A B) (fun ys=>ys=fZ a l) (fun pre=>pre<+:fZ a l) w:=by
 have hk:=ha.kind;by_cases h3:a.k<=3
 ·exact⟨[],by rw[(ha.leaf h3).2,gC],aB7 hTs Bs n₀ a x h3 w hX hv⟩
 by_cases h4:a.k=4
 ·exact aCu hTs Bs n₀ a x ha h4 w hn₀ hX hv
 by_cases h5:a.k=5
 ·exact aCw hTs Bs n₀ a x ha h5 w hn₀ hX hv hT
 ·exact aCv hTs Bs n₀ a x ha uAu w hn₀ hX hv hT
end Go.Proofs.YtengibnpebfblaaGreatDoor
