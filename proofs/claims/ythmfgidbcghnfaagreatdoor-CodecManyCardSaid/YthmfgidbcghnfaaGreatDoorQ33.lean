import Derived.Test.YthmfgidbcghnfaaGreatDoorQ0
import Derived.Test.YthmfgidbcghnfaaGreatDoorQ31
set_option maxRecDepth 1000000
set_option maxHeartbeats 8000000
set_option linter.unusedSimpArgs false
namespace Go.Proofs.YthmfgidbcghnfaaGreatDoor
open Go.RowKit Go.Shelf
attribute [local go_sem] fS
abbrev Stp:=Int×Int×ByteArray
abbrev aBd (s:Stp):Array Value:=#[.int .i64 s.1,.int .i64 s.2.1,.string s.2.2]
abbrev aJF (e:Stp×Cel):Array Value:=#[.agg (aBd e.1),.agg (aL e.2)]
def gV (a:Tr) (l:List Cel):List (Stp×Cel):=(tQ a).zip l
structure yR (Ts:TypeId->Prop):Prop where
 int:¬Ts 3
 out:¬Ts 163
 rope:¬Ts 206
 node:¬Ts 125
 entry:¬Ts 211
def mkP (e:Nat×Cel):Stp×Cel:=(((0:Int),(e.1:Int),(⟨#[]⟩:ByteArray)),e.2)
theorem zA {a:Tr} {l:List Cel} (h4:a.k=4) (hl:l.length=a.xs.length):gV a l=(fV l).map mkP:=by
 unfold gV tQ;rw[if_pos h4,<-hl];apply aA6;intro i;rw[List.getElem?_map];rcases eB i l.length with h|h
 ·rw[List.getElem?_eq_getElem uCy,List.getElem_zip,aJg _ _ h]
  simp[mkP]
 ·rw[List.getElem?_eq_none uCy,List.getElem?_eq_none (by rw[aHk];omega)]
  rfl
def mkM (kd:Int) (e:Ent):Stp×Cel:=((kd,(0:Int),e.1),e.2)
theorem xA {a:Tr} {l:List Cel} (h:a.k=5\/a.k=6):gV a l=(nR a.k a.ks a.xs l).map (mkM (a.k-4)):=by
 have hz:∀(M:List ByteArray) (kd:Int),(M.map fun y=>(kd,(0:Int),y)).zip l=(M.zip l).map (mkM kd):=fun M kd=>by
  rw[List.zip_map_left];apply aGA;intro e _;rfl
 unfold gV tQ nR qD;rcases h with h|h
 ·rw[if_neg hO,if_pos h,if_pos h,show a.k-4=1 by omega]
  exact hz _ _
 ·rw[if_neg hO,if_neg hO,if_neg hO,if_pos h,show a.k-4=2 by omega]
  have e:(a.xs.map fun x=>((2:Int),(0:Int),(⟨(dW x).toArray⟩:ByteArray)))=(a.xs.map kB).map fun y=>((2:Int),(0:Int),y):=by rw[aBH];rfl
  first|rw[e]|skip
  exact hz _ _
theorem pO {Ts:TypeId->Prop} {A B:World} {row:Option Nat} {Y Z:Nat} (hg:A.grownBy B row) (KE:Y<=A.heap.size) (hY:Y<=Z) (hr:∀r,row=some r->Z<=r/\∃o:Obj,A.heap[r]? =some o/\o.isCells=false):IKW Ts Y A B:=by
 cases row with
 |none=>exact⟨hg.size,⟨hg.os,hg.tape,hg.output,hg.size,fun k hk=>hg.block k (bK hk KE) uAy⟩,fun k cs T fr e _=>(hg.block k (gZ e) uAy).trans e⟩
 |some r=>
  obtain⟨h1,o,h2,h3⟩:=hr r rfl;exact IKW.grown hg (aI hY h1) (gZ h2) (fun cs T fr e=>by rw[h2]at e;cases e;cases h3)
theorem rJ (n:Nat) (x:Cel) (w:World):
  CallsIn Fence.wide n Tryz.prog 51 #[.agg (aL x)] w fun e w'=>e=.returned (.func (.func 96) #[] #[.pointer (some ⟨w.heap.size,0,none⟩)])/\w'=w.alloc (.cells (aL x) 37):=by
 refine iO Tryz.func51 rfl trivial ?_ rfl;simp only[Tryz.ntmps51,bI,aD,aK,Nat.reduceAdd,Nat.reduceSub,bT,bS,cH,bU,aT,aP];gi_wp2
 go_ret;exact⟨rfl,rfl⟩
theorem aDC {Ts:TypeId->Prop} (sn:yR Ts) (Bs n₀:Nat) (a:Tr) (x:Cel) (ha:fQ a) (h4:a.k=4) (w:World) (b8:n₀<=w.heap.size) (hX:w.heap[Bs]? =some (.cells (aL x) 37 (0,0))) (hv:VAt (fun g=>g<n₀) w a x):
  ∃l,iN (fun g=>g<n₀) w a.xs l/\aDm Tryz.prog 96 #[.pointer (some ⟨Bs,0,none⟩)] aJF (fun Y A B=>KW Ts n₀ Y A B) (fun Y A B=>IKW Ts Y A B) (fun ys=>ys=gV a l) (fun pre=>pre<+:gV a l) w:=by
 obtain⟨b,la,hp,hb,gu,rc,mc,d,fr,sd,nn,jf,An,hr,hm,hd⟩:=hv.parts hO;refine⟨la,gu,?_⟩;intro l J W hW hA hY h0 m;have Br:=(gZ hX)
 have Mr:=(hW.block _ Br).trans hX;have dy:=kW hW jf;obtain⟨W2,o6⟩:∃W2,(W.alloc (.cells #[.func (.yield l) #[] #[]] 163)).alloc (.cells #[.int .i64 0] 3)=W2:=⟨_,rfl⟩
 obtain⟨ah,jb,jx,ed⟩:=fL o6;have fl:=kW ah Mr;have R0:=kW ah dy;have Gl:cW (fun g=>g<n₀) W2 rc la:=by have:=hr.later (tW hW ah);rwa[vV h4]at this
 have zv:Boxed W2 (W.heap.size+1) 3 (.int .i64 0):=jx;have Dp:=zv.cell;have Ov:=zv.frozen;obtain⟨W3,ia⟩:∃W3,W3=W2.setCell ⟨W.heap.size+1,0,none⟩ (.int .i64 1):=⟨_,rfl⟩
 have dh:=iH (fun W=>dD.1 ((dD (n:=5)).2 (iQ W x)));rw[hv.k,h4]at dh;refine fZ Tryz.func96 rfl trivial ?_ rfl;simp only[Tryz.ntmps96,bI,aD,aK,Nat.reduceAdd,Nat.reduceSub,bT,bS,cH,bU,aT,aP];refine iW.2 ?_;go_upto_region 6 with(first
  |(rw[o6])
  |(rw[<-ia];have Fg:W3.heap[Bs]? =some (.cells (aL x) 37 (0,0)):=uDv;have be:=iH Fg;clear Fg)
  |(refine aW rfl 37 _ rfl Bs rfl 37 _ _ _ be.out Tryz.underlying37 rfl aF ?_)
  |(go_at_call 32;(with_reducible refine(dh.out _).mono ?_);rintro r w4 ⟨rfl,bh⟩;have bg:=iH bh;clear bh))
 have bh:=bg.out;have jv:W2.grownBy W3 (some (W.heap.size+1)):=by rw[ia];exact eP W2 _ _
 have vv:W3.heap.size=W2.heap.size:=by rw[ia];simp[World.setCell]
 have au:Below W.heap.size W2 W3:=(bB _ W2).grown jv hO (fun k e=>by cases e;omega);have kh:Below W.heap.size W w4:=(ah.trans au).trans (bh.mono hO);have Dv:J [] w4:=hA _ _ _ (hA _ _ _ (hA _ _ _ h0 (IKW.below ah (aA _))) (IKW.grown jv (oW _) hO (fun cs T fr e=>by
  rw[show W2.heap[W.heap.size+1]? =_ from jx]at e;simp only[bA,dK]at e;rw[<-e.2.1];exact sn.int))) (IKW.below bh hO)
 have so:Boxed w4 W.heap.size 163 (.func (.yield l) #[] #[]):=(bh.block _ hO).trans ((jv.block _ hO uAy).trans jb);have yp:=kW bh be.out;have J3:w4.cell? ⟨Bs,3,none⟩=some (.pointer (some ⟨b,0,none⟩)):=aG yp (by rw[<-hp];rfl);have Va:=hW.size;have yq:=kW kh dy;have nc:=iH (sQ hr.size yq);have R3:=iH hr.size;have Ai:cW (fun g=>g<n₀) w4 rc la:=by
  have:=hr.low ((hW.mono b8).trans (kh.mono hO));rwa[vV h4]at this
 have mh:=iH (fun w=>dD.1 (aLS 5 rc w));have Fh:W.heap.size+2<=w4.heap.size:=by have:=bh.size;omega
 clear ia jv vv au bg bh o6 ah jb jx ed fl R0 Gl zv Dp Ov dh be yp;go_wp2_with (first
  |(refine cO rfl 127 _ rfl b 0 rfl rc.toList _ nc.out Tryz.underlying127 rfl (by rw[bM,R3.out];exact dM) ?_)
  |(go_at_call 97;(with_reducible refine(mh.out _).mono ?_);rintro e w' ⟨rfl,rfl⟩))
 obtain⟨W5,yr⟩:∃W5,W5=w4.alloc (.cells rc 127):=⟨_,rfl⟩
 obtain⟨Q,hQ⟩:∃Q,Q=w4.heap.size:=⟨_,rfl⟩
 have ay:Below w4.heap.size w4 W5:=by rw[yr];exact Below.newly' _ _
 have J4:W5.heap[Q]? =some (.cells rc 127 (0,0)):=by rw[yr,hQ];exact aC _ _
 have yu:W5.heap.size=Q+1:=by rw[yr,hQ];simp
 have J5:J [] W5:=hA _ _ _ Dv (IKW.below ay hO);have yw:Boxed W5 W.heap.size 163 (.func (.yield l) #[] #[]):=(ay.block _ so.lt).trans so;have yf:=Ai.low (ay.mono (show n₀<=w4.heap.size by omega));have an:=ha.len;have j5:=gD gu;rw[<-yr,<-hQ];have R4:W.heap.size+2<=Q:=by omega
 clear yr ay Dv so Ai hQ Fh J3 yq nc;refine(iW (n:=5)).1 ?_;refine mF (n₀:=n₀) hO (aCI Ts n₀) (gf:=130) (lb:=#[.pointer (some ⟨Q,0,none⟩)]) rfl (iX Tryz.func130 uAu rfl)
  (aR0 Q n₀ (aOV n₀ sn.int sn.rope sn.node) rc la W5 hO J4 yf hO).n (fun _=>rfl)
  (fun(pre:List (Nat×Cel)) V=>J (pre.map mkP) V/\Boxed V W.heap.size 163 (.func (.yield l) #[] #[]))
  (fun s A B row hs hg hr=>⟨hA _ _ _ hs.1 (pO hg (eH hs.2.lt) (by rw[yu];omega) hr),aGv W.heap.size 163 (fun(_:Unit)=>Value.func (.yield l) #[] #[]) () A B row hs.2 hg (fun r e=>(hr r e).2)⟩)
  (fun s A B h hb=>⟨hA _ _ _ h.1 (hb.down hO),(hb.2.1.block _ hO).trans h.2⟩)
  (fun s A B h hb=>⟨hA _ _ _ h.1 (IKW.below hb (eH h.2.lt)),(hb.block _ h.2.lt).trans h.2⟩)
  ⟨J5,yw⟩
  (fun x b V=>V.heap[b]? =some (.cells (aL x.2) 37 (0,0)))
  (fun x b A l o o' h1 h2 h=>by rw[cN (fun e=>by rw[e,h1]at h;cases h;cases h2)];exact h)
  (fun h hn=>KW.below h hn)
  (fun x' b'=>{tmps:=#[.func (.yield l) #[] #[],.pointer (some ⟨Bs,0,none⟩),.pointer (some ⟨W.heap.size,0,none⟩),.pointer (some ⟨W.heap.size+1,0,none⟩),.int .i64 (x'.1:Int),.pointer (some ⟨b',0,none⟩),undef,undef,.agg (aL x),.int .i64 4,.bool true,.bool true,undef,undef,undef,undef,.pointer (some ⟨Bs,3,none⟩),.pointer (some ⟨b,0,none⟩),.pointer (some ⟨b,0,none⟩),.pointer (some ⟨b,0,none⟩),.agg rc,.func (.func 130) #[] #[.pointer (some ⟨Q,0,none⟩)],.int .i64 (x'.1:Int),.agg (aL x'.2),undef,undef,undef,undef,undef,undef,undef,undef,undef,undef,undef,undef,undef,undef,undef,undef,undef,undef,undef,undef,undef],defers:=[]}) ?assign ?body ?done
 case assign=>
  exact Ah2
 case body=>
  rintro k pre x' b' V q8 ⟨yx,jc⟩ df hpl;have gj:(pre.map mkP)++[mkP x']<+:gV a la:=by
   rw[zA h4 j5];have:=hpl.map mkP;simpa using this
  obtain⟨fn,tmps,assign,body,hy,hR⟩:=hY (5-1) (pre.map mkP) (mkP x') V yx hO gj;dsimp only[aJF,aBd,mkP]at hy;have cy:=jc.cell;have ng:=iH df;have B3:=iH jc;have gw:Hid (Q+3<=V.heap.size):=by show _<=_;omega
  have Fi:=iH R4;have xh:=iH yu;clear df hpl gj yx q8 jc yw J5 J4 yf hY hA h0;gi_wp2_with (first
   |(refine aKA rfl 37 _ rfl b' rfl 37 _ _ _ ng.out Tryz.underlying37 rfl aF ?_))
  refine RoundIn.mono (F:=Fence.wide.inRound k) hR ?_;rintro e V2 ⟨rfl,Ev,jn⟩;have R5:=iH Ev;have ua:=iH jn;clear Ev jn hy hR cy;gi_wp2
  have hq:=Fi.out;have DM:=xh.out;have jn:=ua.out;refine⟨⟨jn.2.1,fun g o hg ho hc=>jn.2.2.2 g o hO ho hc⟩,jn.up hO,?_,jn.2.2.1 _ _ _ _ B3.out sn.out⟩;rw[bZ];exact R5.out
 case done=>
  rintro ys V rfl ⟨yx,_⟩ hD;have HJ:=iH yx;have HD:=iH hD;clear yx hD;go_wp2_with fail
  have vt:=fC V W5.heap.size (.deferred none);have hj:=hA _ _ _ HJ.out (pO (Y:=W.heap.size) (Z:=W5.heap.size) vt uSu hO (fun r e=>by cases e;exact⟨aA _,_,HD.out,rfl⟩));exact⟨by simp[Act.put],.inl ⟨_,_,rfl,lG HD.out,.tuple #[],pQ rfl _ _ _,⟨_,rfl⟩,_,(zA h4 j5).symm,hj⟩⟩
theorem aDE {Ts:TypeId->Prop} (sn:yR Ts) (Bs n₀:Nat) (a:Tr) (x:Cel) (ha:fQ a) (h4:a.k=5) (w:World) (b8:n₀<=w.heap.size) (hX:w.heap[Bs]? =some (.cells (aL x) 37 (0,0))) (hv:VAt (fun g=>g<n₀) w a x) (hT:iF w):
  ∃l,iN (fun g=>g<n₀) w a.xs l/\aDm Tryz.prog 96 #[.pointer (some ⟨Bs,0,none⟩)] aJF (fun Y A B=>KW Ts n₀ Y A B) (fun Y A B=>IKW Ts Y A B) (fun ys=>ys=gV a l) (fun pre=>pre<+:gV a l) w:=by
 obtain⟨b,la,hp,hb,gu,rc,mc,d,fr,sd,nn,jf,An,hr,hm,hd⟩:=hv.parts hO;refine⟨la,gu,?_⟩;intro l J W hW hA hY h0 m;have Br:=(gZ hX)
 have Mr:=(hW.block _ Br).trans hX;have dy:=kW hW jf;obtain⟨W2,o6⟩:∃W2,(W.alloc (.cells #[.func (.yield l) #[] #[]] 163)).alloc (.cells #[.int .i64 0] 3)=W2:=⟨_,rfl⟩
 obtain⟨ah,jb,jx,ed⟩:=fL o6;have fl:=kW ah Mr;have R0:=kW ah dy;have zv:Boxed W2 (W.heap.size+1) 3 (.int .i64 0):=jx;have Dp:=zv.cell;have Ov:=zv.frozen;obtain⟨W3,ia⟩:∃W3,W3=W2.setCell ⟨W.heap.size+1,0,none⟩ (.int .i64 1):=⟨_,rfl⟩
 have dh:=iH (fun W=>dD.1 ((dD (n:=5)).2 (iQ W x)));rw[hv.k,h4]at dh;refine fZ Tryz.func96 rfl trivial ?_ rfl;simp only[Tryz.ntmps96,bI,aD,aK,Nat.reduceAdd,Nat.reduceSub,bT,bS,cH,bU,aT,aP];refine iW.2 ?_;go_upto_region 11 with(first
  |(rw[o6])
  |(rw[<-ia];have Fg:W3.heap[Bs]? =some (.cells (aL x) 37 (0,0)):=uDv;have be:=iH Fg;clear Fg)
  |(refine aW rfl 37 _ rfl Bs rfl 37 _ _ _ be.out Tryz.underlying37 rfl aF ?_)
  |(go_at_call 32;(with_reducible refine(dh.out _).mono ?_);rintro r w4 ⟨rfl,bh⟩;have bg:=iH bh;clear bh))
 have bh:=bg.out;have jv:W2.grownBy W3 (some (W.heap.size+1)):=by rw[ia];exact eP W2 _ _
 have vv:W3.heap.size=W2.heap.size:=by rw[ia];simp[World.setCell]
 have au:Below W.heap.size W2 W3:=(bB _ W2).grown jv hO (fun k e=>by cases e;omega);have kh:Below W.heap.size W w4:=(ah.trans au).trans (bh.mono hO);have Dv:J [] w4:=hA _ _ _ (hA _ _ _ (hA _ _ _ h0 (IKW.below ah (aA _))) (IKW.grown jv (oW _) hO (fun cs T fr e=>by
  rw[show W2.heap[W.heap.size+1]? =_ from jx]at e;simp only[bA,dK]at e;rw[<-e.2.1];exact sn.int))) (IKW.below bh hO)
 have so:Boxed w4 W.heap.size 163 (.func (.yield l) #[] #[]):=(bh.block _ hO).trans ((jv.block _ hO uAy).trans jb);have Au:Boxed w4 (W.heap.size+1) 3 (.int .i64 1):=(bh.block _ hO).trans (show Boxed W3 _ _ _ by rw[ia];exact zv.set _);have yp:=kW bh be.out;have J3:w4.cell? ⟨Bs,3,none⟩=some (.pointer (some ⟨b,0,none⟩)):=aG yp (by rw[<-hp];rfl);have Va:=hW.size;have yq:=kW kh dy;have nc:=iH (sR hr.size hm.size yq);have R3:=iH hm.size;have Ai:fG (fun g=>g<n₀) w4 sd nn (nR a.k a.ks a.xs la) mc:=hm.kp (Kq.kp (Kq.low ((hW.mono b8).trans (kh.mono hO)) fun _ h=>h));have mh:=iH (fun w=>dD.1 (aEJ 5 mc w));have Fh:W.heap.size+2<=w4.heap.size:=by have:=bh.size;omega
 clear ia jv vv au bg bh o6 ah jb jx ed fl R0 zv Dp Ov dh be yp;go_wp2_with (first
  |(refine cO rfl 136 _ rfl b 4 rfl mc.toList _ nc.out Tryz.underlying136 rfl (by rw[bM,R3.out];exact gP) ?_)
  |(go_at_call 98;(with_reducible refine(mh.out _).mono ?_);rintro e w' ⟨rfl,rfl⟩))
 obtain⟨W5,yr⟩:∃W5,W5=w4.alloc (.cells mc 136):=⟨_,rfl⟩
 obtain⟨Q,hQ⟩:∃Q,Q=w4.heap.size:=⟨_,rfl⟩
 have ay:Below w4.heap.size w4 W5:=by rw[yr];exact Below.newly' _ _
 have J4:W5.heap[Q]? =some (.cells mc 136 (0,0)):=by rw[yr,hQ];exact aC _ _
 have yu:W5.heap.size=Q+1:=by rw[yr,hQ];simp
 have J5:J [] W5:=hA _ _ _ Dv (IKW.below ay hO);have Fj:Boxed W5 (W.heap.size+1) 3 (.int .i64 1):=(ay.block _ Au.lt).trans Au;have yw:Boxed W5 W.heap.size 163 (.func (.yield l) #[] #[]):=(ay.block _ so.lt).trans so;have yf:=Ai.kp (Kq.kp (Kq.low (ay.mono (show n₀<=w4.heap.size by omega)) fun _ h=>h));have an:=ha.len;have j5:=gD gu;have rz:=ha.mkeys (.inl h4);have qm:iF W5:=(hT.below hW).below (kh.trans (ay.mono hO));rw[<-yr,<-hQ];have R4:W.heap.size+2<=Q:=by omega
 clear yr ay Dv so Au Ai hQ Fh J3 yq nc;refine(iW (n:=5)).1 ?_;refine mF (n₀:=n₀) hO (aCI Ts n₀) (gf:=133) (lb:=#[.pointer (some ⟨Q,0,none⟩)]) rfl (iX Tryz.func133 uAu rfl)
  (aKM Q n₀ (aAX n₀ sn.entry) sd nn (nR a.k a.ks a.xs la) mc W5 hO J4 yf (nH rz.2.1 (rz.1.trans j5.symm)) (by rw[nR,kP];omega) qm).n (fun _=>rfl)
  (fun(pre:List Ent) V=>J (pre.map (mkM 1)) V/\Boxed V W.heap.size 163 (.func (.yield l) #[] #[])/\Boxed V (W.heap.size+1) 3 (.int .i64 1))
  (fun s A B row hs hg hr=>⟨hA _ _ _ hs.1 (pO hg (eH hs.2.1.lt) (by rw[yu];omega) hr),aGv W.heap.size 163 (fun(_:Unit)=>Value.func (.yield l) #[] #[]) () A B row hs.2.1 hg (fun r e=>(hr r e).2),aGv (W.heap.size+1) 3 (fun(_:Unit)=>Value.int .i64 1) () A B row hs.2.2 hg (fun r e=>(hr r e).2)⟩)
  (fun s A B h hb=>⟨hA _ _ _ h.1 (hb.down hO),(hb.2.1.block _ hO).trans h.2.1,(hb.2.1.block _ hO).trans h.2.2⟩)
  (fun s A B h hb=>⟨hA _ _ _ h.1 (IKW.below hb (eH h.2.1.lt)),(hb.block _ h.2.1.lt).trans h.2.1,(hb.block _ h.2.2.lt).trans h.2.2⟩)
  ⟨J5,yw,Fj⟩
  (fun x b V=>V.heap[b]? =some (.cells (aL x.2) 37 (0,0)))
  (fun x b A l o o' h1 h2 h=>by rw[cN (fun e=>by rw[e,h1]at h;cases h;cases h2)];exact h)
  (fun h hn=>KW.below h hn)
  (fun x' b'=>{tmps:=#[.func (.yield l) #[] #[],.pointer (some ⟨Bs,0,none⟩),.pointer (some ⟨W.heap.size,0,none⟩),.pointer (some ⟨W.heap.size+1,0,none⟩),undef,undef,.string x'.1,.pointer (some ⟨b',0,none⟩),.agg (aL x),.int .i64 5,.bool false,.bool false,.bool false,.bool false,.bool true,.bool true,undef,undef,undef,undef,undef,undef,undef,undef,undef,undef,undef,undef,undef,undef,.pointer (some ⟨Bs,3,none⟩),.pointer (some ⟨b,0,none⟩),.pointer (some ⟨b,0,none⟩),.pointer (some ⟨b,4,none⟩),.agg mc,.func (.func 133) #[] #[.pointer (some ⟨Q,0,none⟩)],.string x'.1,.agg (aL x'.2),undef,undef,undef,undef,undef,undef,undef],defers:=[]}) ?assign ?body ?done
 case assign=>
  exact Ah2
 case body=>
  rintro k pre x' b' V q8 ⟨yx,jc,zu⟩ df hpl;have gj:(pre.map (mkM 1))++[(mkM 1) x']<+:gV a la:=by
   rw[xA (.inl h4),show a.k-4=1 by omega];have:=hpl.map (mkM 1);simpa using this
  obtain⟨fn,tmps,assign,body,hy,hR⟩:=hY (5-1) (pre.map (mkM 1)) ((mkM 1) x') V yx hO gj;exact Aa7
 case done=>
  rintro ys V rfl ⟨yx,_⟩ hD;have HJ:=iH yx;have HD:=iH hD;clear yx hD;go_wp2_with fail
  have vt:=fC V W5.heap.size (.deferred none);have hj:=hA _ _ _ HJ.out (pO (Y:=W.heap.size) (Z:=W5.heap.size) vt uSu hO (fun r e=>by cases e;exact⟨aA _,_,HD.out,rfl⟩));exact⟨by simp[Act.put],.inl ⟨_,_,rfl,lG HD.out,.tuple #[],pQ rfl _ _ _,⟨_,rfl⟩,_,(by rw[xA (.inl h4),show a.k-4=1 by omega]),hj⟩⟩
theorem aDD {Ts:TypeId->Prop} (sn:yR Ts) (Bs n₀:Nat) (a:Tr) (x:Cel) (ha:fQ a) (h4:a.k=6) (w:World) (b8:n₀<=w.heap.size) (hX:w.heap[Bs]? =some (.cells (aL x) 37 (0,0))) (hv:VAt (fun g=>g<n₀) w a x) (hT:iF w):
  ∃l,iN (fun g=>g<n₀) w a.xs l/\aDm Tryz.prog 96 #[.pointer (some ⟨Bs,0,none⟩)] aJF (fun Y A B=>KW Ts n₀ Y A B) (fun Y A B=>IKW Ts Y A B) (fun ys=>ys=gV a l) (fun pre=>pre<+:gV a l) w:=by
 obtain⟨b,la,hp,hb,gu,rc,mc,d,fr,sd,nn,jf,An,hr,hm,hd⟩:=hv.parts hO;refine⟨la,gu,?_⟩;intro l J W hW hA hY h0 m;have Br:=(gZ hX)
 have Mr:=(hW.block _ Br).trans hX;have dy:=kW hW jf;obtain⟨W2,o6⟩:∃W2,(W.alloc (.cells #[.func (.yield l) #[] #[]] 163)).alloc (.cells #[.int .i64 0] 3)=W2:=⟨_,rfl⟩
 obtain⟨ah,jb,jx,ed⟩:=fL o6;have fl:=kW ah Mr;have R0:=kW ah dy;have zv:Boxed W2 (W.heap.size+1) 3 (.int .i64 0):=jx;have Dp:=zv.cell;have Ov:=zv.frozen;obtain⟨W3,ia⟩:∃W3,W3=W2.setCell ⟨W.heap.size+1,0,none⟩ (.int .i64 1):=⟨_,rfl⟩
 have dh:=iH (fun W=>dD.1 ((dD (n:=5)).2 (iQ W x)));rw[hv.k,h4]at dh;refine fZ Tryz.func96 rfl trivial ?_ rfl;simp only[Tryz.ntmps96,bI,aD,aK,Nat.reduceAdd,Nat.reduceSub,bT,bS,cH,bU,aT,aP];refine iW.2 ?_;go_upto_region 11 with(first
  |(rw[o6])
  |(rw[<-ia];have Fg:W3.heap[Bs]? =some (.cells (aL x) 37 (0,0)):=uDv;have be:=iH Fg;clear Fg;have Il:Hid (Boxed W3 (W.heap.size+1) 3 (.int .i64 1)):=(by show Boxed _ _ _ _;rw[ia];exact zv.set _))
  |(refine aW rfl 37 _ rfl Bs rfl 37 _ _ _ be.out Tryz.underlying37 rfl aF ?_)
  |(go_at_call 32;(with_reducible refine(dh.out _).mono ?_);rintro r wk ⟨rfl,bh⟩;have bg:=iH bh;have Fk:Boxed W3 (W.heap.size+1) 3 (.int .i64 1):=Il.out;have KF:=Boxed.cell ((bh.block _ Fk.lt).trans Fk);have KG:=Boxed.frozen ((bh.block _ Fk.lt).trans Fk);clear bh Fk))
 have ub:=bg.out;have Im:Boxed wk (W.heap.size+1) 3 (.int .i64 1):=(ub.block _ Il.out.lt).trans Il.out;obtain⟨w4,j0⟩:∃w4,w4=wk.setCell ⟨W.heap.size+1,0,none⟩ (.int .i64 2):=⟨_,rfl⟩
 rw[<-j0];have Au:Boxed w4 (W.heap.size+1) 3 (.int .i64 2):=by rw[j0];exact Im.set _
 have ny:wk.grownBy w4 (some (W.heap.size+1)):=by rw[j0];exact eP wk _ _
 have R6:w4.heap.size=wk.heap.size:=by rw[j0];simp[World.setCell]
 have jv:W2.grownBy W3 (some (W.heap.size+1)):=by rw[ia];exact eP W2 _ _
 have vv:W3.heap.size=W2.heap.size:=by rw[ia];simp[World.setCell]
 have au:Below W.heap.size W2 W3:=(bB _ W2).grown jv hO (fun k e=>by cases e;omega);have kh:Below W.heap.size W w4:=((ah.trans au).trans (ub.mono hO)).trans ((bB _ wk).grown ny (by have:=ub.size;omega) (fun k e=>by cases e;omega));have Dv:J [] wk:=hA _ _ _ (hA _ _ _ (hA _ _ _ h0 (IKW.below ah (aA _))) (IKW.grown jv (oW _) hO (fun cs T fr e=>by
  rw[show W2.heap[W.heap.size+1]? =_ from jx]at e;simp only[bA,dK]at e;rw[<-e.2.1];exact sn.int))) (IKW.below ub hO)
 replace Dv:J [] w4:=hA _ _ _ Dv (IKW.grown ny (oW _) Im.lt (fun cs T fr e=>by
  rw[show wk.heap[W.heap.size+1]? =_ from Im]at e;simp only[bA,dK]at e;rw[<-e.2.1];exact sn.int))
 have so:Boxed w4 W.heap.size 163 (.func (.yield l) #[] #[]):=(ny.block _ (by have:=ub.size;omega) uAy).trans ((ub.block _ hO).trans ((jv.block _ hO uAy).trans jb));have yp:=(ny.block _ (by have:=(gZ be.out);have:=ub.size;omega) (by simp only[ne_eq,bA];have:=hW.size;omega)).trans (kW ub be.out);have J3:w4.cell? ⟨Bs,3,none⟩=some (.pointer (some ⟨b,0,none⟩)):=aG yp (by rw[<-hp];rfl);have Va:=hW.size;have yq:=kW kh dy;have nc:=iH (sR hr.size hm.size yq);have R3:=iH hm.size;have Ai:fG (fun g=>g<n₀) w4 sd nn (nR a.k a.ks a.xs la) mc:=hm.kp (Kq.kp (Kq.low ((hW.mono b8).trans (kh.mono hO)) fun _ h=>h));have mh:=iH (fun w=>dD.1 (aEJ 5 mc w));have Fh:W.heap.size+2<=w4.heap.size:=by have:=ub.size;omega
 clear ia jv vv au bg ub o6 KF KG j0 ny R6 Im Il ah jb jx ed fl R0 zv Dp Ov dh be yp;go_wp2_with (first
  |(refine cO rfl 136 _ rfl b 4 rfl mc.toList _ nc.out Tryz.underlying136 rfl (by rw[bM,R3.out];exact gP) ?_)
  |(go_at_call 98;(with_reducible refine(mh.out _).mono ?_);rintro e w' ⟨rfl,rfl⟩))
 obtain⟨W5,yr⟩:∃W5,W5=w4.alloc (.cells mc 136):=⟨_,rfl⟩
 obtain⟨Q,hQ⟩:∃Q,Q=w4.heap.size:=⟨_,rfl⟩
 have ay:Below w4.heap.size w4 W5:=by rw[yr];exact Below.newly' _ _
 have J4:W5.heap[Q]? =some (.cells mc 136 (0,0)):=by rw[yr,hQ];exact aC _ _
 have yu:W5.heap.size=Q+1:=by rw[yr,hQ];simp
 have J5:J [] W5:=hA _ _ _ Dv (IKW.below ay hO);have Fj:Boxed W5 (W.heap.size+1) 3 (.int .i64 2):=(ay.block _ Au.lt).trans Au;have yw:Boxed W5 W.heap.size 163 (.func (.yield l) #[] #[]):=(ay.block _ so.lt).trans so;have yf:=Ai.kp (Kq.kp (Kq.low (ay.mono (show n₀<=w4.heap.size by omega)) fun _ h=>h));have an:=ha.len;have j5:=gD gu;have rz:=ha.mkeys (.inr h4);have qm:iF W5:=(hT.below hW).below (kh.trans (ay.mono hO));rw[<-yr,<-hQ];have R4:W.heap.size+2<=Q:=by omega
 clear yr ay Dv so Au Ai hQ Fh J3 yq nc;refine(iW (n:=5)).1 ?_;refine mF (n₀:=n₀) hO (aCI Ts n₀) (gf:=133) (lb:=#[.pointer (some ⟨Q,0,none⟩)]) rfl (iX Tryz.func133 uAu rfl)
  (aKM Q n₀ (aAX n₀ sn.entry) sd nn (nR a.k a.ks a.xs la) mc W5 hO J4 yf (nH rz.2.1 (rz.1.trans j5.symm)) (by rw[nR,kP];omega) qm).n (fun _=>rfl)
  (fun(pre:List Ent) V=>J (pre.map (mkM 2)) V/\Boxed V W.heap.size 163 (.func (.yield l) #[] #[])/\Boxed V (W.heap.size+1) 3 (.int .i64 2))
  (fun s A B row hs hg hr=>⟨hA _ _ _ hs.1 (pO hg (eH hs.2.1.lt) (by rw[yu];omega) hr),aGv W.heap.size 163 (fun(_:Unit)=>Value.func (.yield l) #[] #[]) () A B row hs.2.1 hg (fun r e=>(hr r e).2),aGv (W.heap.size+1) 3 (fun(_:Unit)=>Value.int .i64 2) () A B row hs.2.2 hg (fun r e=>(hr r e).2)⟩)
  (fun s A B h hb=>⟨hA _ _ _ h.1 (hb.down hO),(hb.2.1.block _ hO).trans h.2.1,(hb.2.1.block _ hO).trans h.2.2⟩)
  (fun s A B h hb=>⟨hA _ _ _ h.1 (IKW.below hb (eH h.2.1.lt)),(hb.block _ h.2.1.lt).trans h.2.1,(hb.block _ h.2.2.lt).trans h.2.2⟩)
  ⟨J5,yw,Fj⟩
  (fun x b V=>V.heap[b]? =some (.cells (aL x.2) 37 (0,0)))
  (fun x b A l o o' h1 h2 h=>by rw[cN (fun e=>by rw[e,h1]at h;cases h;cases h2)];exact h)
  (fun h hn=>KW.below h hn)
  (fun x' b'=>{tmps:=#[.func (.yield l) #[] #[],.pointer (some ⟨Bs,0,none⟩),.pointer (some ⟨W.heap.size,0,none⟩),.pointer (some ⟨W.heap.size+1,0,none⟩),undef,undef,.string x'.1,.pointer (some ⟨b',0,none⟩),.agg (aL x),.int .i64 6,.bool false,.bool false,.bool true,.bool true,undef,undef,undef,undef,undef,undef,undef,undef,undef,undef,undef,undef,undef,undef,undef,undef,.pointer (some ⟨Bs,3,none⟩),.pointer (some ⟨b,0,none⟩),.pointer (some ⟨b,0,none⟩),.pointer (some ⟨b,4,none⟩),.agg mc,.func (.func 133) #[] #[.pointer (some ⟨Q,0,none⟩)],.string x'.1,.agg (aL x'.2),undef,undef,undef,undef,undef,undef,undef],defers:=[]}) ?assign ?body ?done
 case assign=>
  exact Ah2
 case body=>
  rintro k pre x' b' V q8 ⟨yx,jc,zu⟩ df hpl;have gj:(pre.map (mkM 2))++[(mkM 2) x']<+:gV a la:=by
   rw[xA (.inr h4),show a.k-4=2 by omega];have:=hpl.map (mkM 2);simpa using this
  obtain⟨fn,tmps,assign,body,hy,hR⟩:=hY (5-1) (pre.map (mkM 2)) ((mkM 2) x') V yx hO gj;exact Aa7
 case done=>
  rintro ys V rfl ⟨yx,_⟩ hD;have HJ:=iH yx;have HD:=iH hD;clear yx hD;go_wp2_with fail
  have vt:=fC V W5.heap.size (.deferred none);have hj:=hA _ _ _ HJ.out (pO (Y:=W.heap.size) (Z:=W5.heap.size) vt uSu hO (fun r e=>by cases e;exact⟨aA _,_,HD.out,rfl⟩));exact⟨by simp[Act.put],.inl ⟨_,_,rfl,lG HD.out,.tuple #[],pQ rfl _ _ _,⟨_,rfl⟩,_,(by rw[xA (.inr h4),show a.k-4=2 by omega]),hj⟩⟩
theorem aBO {Ts:TypeId->Prop} (sn:yR Ts) (Bs n₀:Nat) (a:Tr) (x:Cel) (h3:a.k<=3) (w:World) (hX:w.heap[Bs]? =some (.cells (aL x) 37 (0,0))) (hv:VAt (fun g=>g<n₀) w a x):
  aDm Tryz.prog 96 #[.pointer (some ⟨Bs,0,none⟩)] aJF (fun Y A B=>KW Ts n₀ Y A B) (fun Y A B=>IKW Ts Y A B) (fun ys=>ys=gV a []) (fun pre=>pre<+:gV a []) w:=by
 intro l J W hW hA hY h0 m;have Br:=(gZ hX)
 have Mr:=(hW.block _ Br).trans hX;obtain⟨W2,o6⟩:∃W2,(W.alloc (.cells #[.func (.yield l) #[] #[]] 163)).alloc (.cells #[.int .i64 0] 3)=W2:=⟨_,rfl⟩
 obtain⟨ah,jb,jx,ed⟩:=fL o6;have fl:=kW ah Mr;have zv:Boxed W2 (W.heap.size+1) 3 (.int .i64 0):=jx;have Dp:=zv.cell;have Ov:=zv.frozen;obtain⟨W3,ia⟩:∃W3,W3=W2.setCell ⟨W.heap.size+1,0,none⟩ (.int .i64 1):=⟨_,rfl⟩
 have dh:=iH (fun W=>dD.1 ((dD (n:=5)).2 (iQ W x)));rw[hv.k]at dh;obtain⟨k,hk⟩:∃k,k=a.k:=⟨_,rfl⟩
 rw[<-hk]at dh;have n4:¬k=4:=by omega
 have n5:¬k=5:=by omega
 have n6:¬k=6:=by omega
 clear hY;refine fZ Tryz.func96 rfl trivial ?_ rfl;simp only[Tryz.ntmps96,bI,aD,aK,Nat.reduceAdd,Nat.reduceSub,bT,bS,cH,bU,aT,aP];refine iW.2 ?_;go_wp2_with (first
  |(rw[o6])
  |(rw[<-ia];have Fg:W3.heap[Bs]? =some (.cells (aL x) 37 (0,0)):=uDv;have be:=iH Fg;clear Fg)
  |(refine aW rfl 37 _ rfl Bs rfl 37 _ _ _ be.out Tryz.underlying37 rfl aF ?_)
  |(go_at_call 32;(with_reducible refine(dh.out _).mono ?_);rintro r w4 ⟨rfl,bh⟩;have bg:=iH bh;clear bh))
 have bh:=bg.out;have jv:W2.grownBy W3 (some (W.heap.size+1)):=by rw[ia];exact eP W2 _ _
 have vv:W3.heap.size=W2.heap.size:=by rw[ia];simp[World.setCell]
 have Dv:J [] w4:=hA _ _ _ (hA _ _ _ (hA _ _ _ h0 (IKW.below ah (aA _))) (IKW.grown jv (oW _) hO (fun cs T fr e=>by
  rw[show W2.heap[W.heap.size+1]? =_ from jx]at e;simp only[bA,dK]at e;rw[<-e.2.1];exact sn.int))) (IKW.below bh hO)
 have he:gV a []=[]:=by unfold gV;exact List.zip_nil_right
 rw[he];exact⟨.tuple #[],pQ rfl _ _ _,⟨_,rfl⟩,_,rfl,Dv⟩
theorem wT {Ts:TypeId->Prop} (sn:yR Ts) (Bs n₀:Nat) (a:Tr) (x:Cel) (ha:fQ a) (w:World) (b8:n₀<=w.heap.size) (hX:w.heap[Bs]? =some (.cells (aL x) 37 (0,0))) (hv:VAt (fun g=>g<n₀) w a x) (hT:iF w):
  ∃l,iN (fun g=>g<n₀) w a.xs l/\aDm Tryz.prog 96 #[.pointer (some ⟨Bs,0,none⟩)] aJF (fun Y A B=>KW Ts n₀ Y A B) (fun Y A B=>IKW Ts Y A B) (fun ys=>ys=gV a l) (fun pre=>pre<+:gV a l) w:=by
 have hk:=ha.kind;by_cases h3:a.k<=3
 ·exact⟨[],by rw[(ha.leaf h3).2,iN],aBO sn Bs n₀ a x h3 w hX hv⟩
 by_cases h4:a.k=4
 ·exact aDC sn Bs n₀ a x ha h4 w b8 hX hv
 by_cases h5:a.k=5
 ·exact aDE sn Bs n₀ a x ha h5 w b8 hX hv hT
 ·exact aDD sn Bs n₀ a x ha hO w b8 hX hv hT
end Go.Proofs.YthmfgidbcghnfaaGreatDoor
namespace Go.Proofs.YthmfgidbcghnfaaGreatDoor
open Go.RowKit Go.Shelf
attribute [local go_sem] fS
abbrev U8 (T:TypeId):Prop:=T=5
abbrev U8s (T:TypeId):Prop:=T=5\/T=72
theorem aA9:yR U8s:=⟨by decide,by decide,by decide,by decide,by decide⟩
section
variable {Ts Yx : TypeId → Prop} {n₀ Y Z X : Nat} {w A A' : World}
theorem KW.mono (h:KW Ts n₀ Y w A) (hT:∀T,Ts T->Yx T):KW Yx n₀ Y w A:=⟨h.1,h.2.1,fun k cs T fr e ht=>h.2.2.1 k cs T fr e (fun h=>ht (hT _ h)),h.2.2.2⟩
theorem KW.ik (h:KW Ts n₀ 0 w A) (k:IKW Yx Y A A') (hw:w.heap.size<=Y) (hn:n₀<=Y):KW Ts n₀ 0 w A':=
 ⟨h.1.trans (k.2.1.mono hn),aI h.2.1 k.1,fun i cs T fr e ht=>by
  have hi:=(gZ e)
  exact(k.2.1.block i hO).trans (h.2.2.1 i cs T fr e ht),fun i o hi e ho=>by
  have Pm:=(gZ e)
  exact(k.2.1.block i hO).trans (h.2.2.2 i o hi e ho)⟩
theorem KW.new (h:KW Ts n₀ 0 w A) (hg:A.grownBy A' (some X)) (hX:w.heap.size<=X) (hn:n₀<=w.heap.size):KW Ts n₀ 0 w A':=
 ⟨h.1.trans ((bB _ A).grown hg (aI hn h.2.1) (fun k e=>by cases e;omega)),aI h.2.1 hg.size,fun i cs T fr e ht=>by
  have hi:=(gZ e)
  have h1:=h.2.2.1 i cs T fr e ht;exact(hg.block i (gZ h1) (fun e=>by have:=aH e;omega)).trans h1,fun i o hi e ho=>by
  have Pm:=(gZ e)
  have h1:=h.2.2.2 i o hi e ho;exact(hg.block i (gZ h1) (fun e=>by have:=aH e;omega)).trans h1⟩
end
theorem aP2 (l:List UInt8):kb ⟨l.toArray⟩=l:=by simp[kb]
theorem aJ4 {S:Nat->Prop} {w V:World} {a:Tr} {x:Cel} {X:Nat} {T:TypeId} {fr:Nat×Nat} (hv:VAt S w a x) (h:V.heap[X]? =some (.cells (aL x) T fr)):V.rangeAt X 0 [.int .i64 a.k,.int .i64 a.n,.string a.t]:=fun j u hu=>aG h (by
 have hj:j<3:=(List.getElem?_eq_some_iff.1 hu).1;rw[<-hv.k,<-hv.n,<-hv.t]at hu
 match j,hj with
 |0,_=>exact hu
 |1,_=>exact hu
 |2,_=>exact hu)
theorem xG {k:Int}:∀{xs:List Tr} {ks:List ByteArray} {q:Nat} (hq:q<xs.length),nC k (ks.take (q+1)) (xs.take (q+1))=nC k (ks.take q) (xs.take q)++((if k=5 then aBj (ks.getD q ⟨#[]⟩)else[])++dW xs[q])
 |[],_,_,h=>by simp at h
 |x::r,ks,0,_=>by
  cases ks<;>simp[nC]
 |x::r,ks,q+1,h=>by
  have h':q<r.length:=by simpa using h
  have ih:=xG (k:=k) (ks:=ks.tail) h';cases ks with
  |nil=>
   simp only[aIH,dC,nC,List.tail_nil,yB,List.headD_nil,nO,bG]at ih ⊢;rw[ih];simp
  |cons y ys=>
   simp only[dC,nC,yB,aDv,nO,bG]at ih ⊢;rw[ih];simp
theorem aBz {k:Int}:∀{xs:List Tr} {ks:List ByteArray} (n:Nat),(nC k (ks.take n) (xs.take n)).length<=(nC k ks xs).length
 |[],ks,n=>by simp[nC]
 |x::r,ks,0=>by simp[nC]
 |x::r,ks,n+1=>by
  have ih:=aBz (k:=k) (xs:=r) (ks:=ks.tail) n;cases ks with
  |nil=>
   simp only[aIH,dC,nC,List.tail_nil,List.headD_nil,aB]at ih ⊢;omega
  |cons y ys=>
   simp only[dC,nC,yB,aDv,aB]at ih ⊢;omega
theorem iF.low {B:Nat} {w w':World} (h:iF w) (hB:4<B) (hb:Below B w w'):iF w':=fun j hj=>(hb.cell (p:=⟨4,j,none⟩) hB).trans (h j hj)
def wP (a:Tr):Prop:=∀(w:World) (x:Cel) (B:Nat) (v:Value) (l:List UInt8),fQ a->VAt (fun g=>g<B) w a x->iF w->4<B->Buf B v l w->l.length+(dW a).length<=1000000000000->
 Calls Tryz.prog 56 #[.agg (aL x),v] w fun r w'=>∃v',r=.returned v'/\Buf B v' (l++dW a) w'/\KW U8 B 0 w w'
theorem aIB (a:Tr) (h3:a.k<=3):wP a:=by
 intro w x B v l ha hv hT Cy mw an;have sl:dW a=pW (scT a.k a.n a.t):=by
  cases a with
  |nd k n t ks xs=>rw[dW];exact if_pos h3
 rw[sl]at an ⊢;obtain⟨a0,c0,rfl⟩:=mw.len;obtain⟨w1,ag⟩:∃w1,(w.alloc (.cells (aL x) 37)).alloc (.cells #[.slice a0 l.length c0] 72)=w1:=⟨_,rfl⟩
 obtain⟨af,ai,aw,al⟩:=fL ag;have HX1:=iH ai;have HB1:=iH af;have bd:=iH (And.intro (show w1.cell? ⟨w.heap.size+1,0,none⟩=some (.slice a0 l.length c0)from aG aw rfl) (aJ4 hv ai));have dh:=iH (iQ w1 x);rw[hv.k]at dh;have vu:=iH (fun W=>aNZ a.k a.n a.t W (zM a ha.1.1|>qT.1|>.1) (aI (fO.1 ha.2).1 uAv));obtain⟨ky,uv⟩:∃ky,ky=pW (scT a.k a.n a.t):=⟨_,rfl⟩
 rw[<-uv]at vu an ⊢;have sq:=iH (fun W (hb:Below w1.heap.size w1 W)=>mw.later (tW af hb));have Q1:Hid (l.length+(⟨ky.toArray⟩:ByteArray).size<=140737488355328):=by show _<=_;simp only[ByteArray.size,bI];omega
 have zp:=iH mw.2;have n4:¬a.k=4:=by omega
 have n5:¬a.k=5:=by omega
 have n6:¬a.k=6:=by omega
 clear ai aw af al ha hv hT Cy mw an sl uv;go_enter Tryz.func56,Tryz.ntmps56;go_upto_region 1 with fail
 clear ag;go_upto_region 2 with(first
  |(refine aW rfl 37 _ rfl w.heap.size rfl 37 _ _ _ HX1.out Tryz.underlying37 rfl aF ?_)
  |(go_at_call 32;refine dh.out.mono ?_;rintro r w2 ⟨rfl,ah⟩;have aq:=iH ah;clear ah))
 have ar:Hid (∀V,Below w1.heap.size w1 V->V.cell? ⟨w.heap.size+1,0,none⟩=some (.slice a0 l.length c0)/\V.rangeAt w.heap.size 0 [.int .i64 a.k,.int .i64 a.n,.string a.t]):=fun V hV=>⟨dQ bd.out.1 hV,fF bd.out.2 hV⟩
 have HW:Hid (Below w1.heap.size w1 w2.drew):=aq.out.trans ((aY w2).mono aq.out.size);refine bO (S:=(fun V=>V.cell? ⟨w.heap.size+1,0,none⟩=some (.slice a0 l.length c0)/\V.rangeAt w.heap.size 0 [.int .i64 a.k,.int .i64 a.n,.string a.t])) [4,5] uAu uAw (fun ab=> ?_);refine tkL 0 9 (h:=?_);refine tkL 1 10 (h:=?_);(try simp only[pq]);refine tyL 2 11 (hy:=dX uAz 34 _ rfl w.heap.size 0 rfl #[.int .i64 a.k,.int .i64 a.n,.string a.t] _ (fun w hw=>hw.2) Tryz.underlying34 rfl (by exact aAO)) (h:=?_);(try simp only[pq]);refine tkO 3 (some 12) (h:=fun K hK=> ?_);go_simp;go_at_call 105;(with_reducible refine(vu.out _).mono ?_);rintro r w3 ⟨rfl,hb⟩;replace HW:=iH (tW HW.out hb);clear hb;dsimp only;refine hK.out _ _ uAw (fun ab=> ?_);clear hK K;(try simp only[pq]);refine tkU 4 (some 13) (h:=fun K hK=> ?_);refine aGg _ _ rfl (B:=B) (l:=l) rfl (sq.out _ HW.out) _ rfl (by exact Q1.out) ?_;intro v' w4 h4 ny;refine hK.out _ _ ?_;clear hK K;(try simp only[pq]);refine tkU 5 (some 4) (h:=fun K hK=> ?_);go_simp;refine hK.out _ _ ?_;clear hK K;(try simp only[pq]);refine bJ uAu ?_ _;clear ab;have bg:=iH h4;have qf:=iH ny;clear h4 ny;go_wp2_with fail
 go_ret;have om:=zp.out;have au:=tW HB1.out HW.out;have hr:=bg.out;rw[aP2]at hr;exact⟨_,rfl,hr,(KW.below au om).trans ((sq.out _ HW.out).kw qf.out (aA _) rfl)⟩
theorem aJT (a:Tr) (hk:a.k=4) (ih:∀y∈a.xs,wP y):wP a:=by
  intro w x B v l ha hv hT Cy mw an;have sl:dW a=bt8 (a.k+1)::(nC a.k a.ks a.xs++[0]):=by
    cases a with
    |nd k n t ks xs=>rw[dW];exact if_neg (by have h:k=4:=hk;omega)
  rw[sl]at an ⊢;obtain⟨a0,c0,rfl⟩:=mw.len;obtain⟨w1,ag⟩:∃w1,(w.alloc (.cells (aL x) 37)).alloc (.cells #[.slice a0 l.length c0] 72)=w1:=⟨_,rfl⟩
  obtain⟨af,ai,aw,al⟩:=fL ag;have om:=mw.2;have gd:Boxed w1 (w.heap.size+1) 72 (.slice a0 l.length c0):=aw;have HX1:=iH ai;have HB1:=iH af;have HS1:=iH al;have ox:=iH gd;have dh:=iH (iQ w1 x);rw[hv.k,hk]at dh;have oq:=iH (fun W=>dD.1 (rJ 5 x W));have yy:l.length+1<=140737488355328:=by simp only[aD]at an;omega
  have sq:=iH (fun W (hb:Below w1.heap.size w1 W)=>mw.later (tW af hb));clear ai aw af gd;refine(dD (n:=5)).1 ?_;refine fZ Tryz.func56 rfl trivial ?_ rfl;refine iW.2 ?_;simp only[Tryz.ntmps56,bI,aD,aK,Nat.reduceAdd,Nat.reduceSub,bT,bS,cH,bU,aT,aP];go_upto_region 1 with fail
  clear ag;go_upto_region 9 with(first
    |(refine aW rfl 37 _ rfl w.heap.size rfl 37 _ _ _ HX1.out Tryz.underlying37 rfl aF ?_)
    |(go_at_call 32;refine dh.out.mono ?_;rintro r w2 ⟨rfl,ah⟩;have aq:=iH ah;have jx:Boxed w2 (w.heap.size+1) 72 (.slice a0 l.length c0):=(ah.block _ ox.out.lt).trans ox.out;have Fl:=jx.cell;have du:=iH jx;have o8:=iH (Below.newly' w2 (.cells #[.int .u8 5] 5));clear jx ah)
    |(at_builtin;go_loud (refine aA3 rfl (.tmp 16) (.tmp 17) rfl rfl (sq.out _ aq.out) [5] _ rfl 1 1 rfl rfl (by exact yy) ?_)
      intro v3 w3 h3 jv;obtain⟨a3,c3,rfl⟩:=h3.len;have nh:Boxed w3 (w.heap.size+1) 72 (.slice a0 l.length c0):=((sq.out _ aq.out).later o8.out).keepsT jv uAv ((o8.out.block _ du.out.lt).trans du.out);have J6:=nh.cell;have R7:=nh.frozen;have gb:=iH nh;have Dl:=iH h3;have je:=iH jv;clear h3 jv nh))
  have R8:=HS1.out;obtain⟨v3,B4⟩:∃v3,v3=Value.slice a3 (l.length+1) c3:=⟨_,rfl⟩
  have um:Buf B v3 (l++[5]) w3:=by have h:=Dl.out;rw[aB]at h;rw[B4];exact h
  obtain⟨w4,j0⟩:∃w4,w4=w3.setCell ⟨w.heap.size+1,0,none⟩ v3:=⟨_,rfl⟩
  have ny:w3.grownBy w4 (some (w.heap.size+1)):=by rw[j0];exact eP w3 _ _
  have uw:Boxed w4 (w.heap.size+1) 72 v3:=by rw[j0];exact gb.out.set _
  have tw:Buf B v3 (l++[5]) w4:=um.grown ny (um.ne_box gb.out uAv);have yz:Below w.heap.size w (w2.alloc (.cells #[.int .u8 5] 5)):=(tW HB1.out aq.out).trans (o8.out.mono (aI HB1.out.size aq.out.size));have B1:=(sq.out _ aq.out).later o8.out;have y5:KW U8 B 0 w w4:=((KW.below yz om).trans (B1.kw (Ts:=U8) je.out (aA _) rfl)).new ny hO om;have lf:w3.heap[w.heap.size]? =some (.cells (aL x) 37 (0,0)):=B1.keepsT je.out uAv ((o8.out.block _ uIu).trans (kW aq.out HX1.out));have bw:=iH ((ny.block _ (gZ lf) uAy).trans lf);have y6:w.heap.size+2<=w4.heap.size:=by have h1:=aq.out.size;have h2:=o8.out.size;have h3:=je.out.size;have h4:=ny.size;omega
  rw[<-B4,<-j0];clear B4 j0 ny um yz B1 lf Dl je gb HX1 ox aq du o8 sq Fl J6 R7 dh;go_wp2_with (first
    |(refine aW rfl 37 _ rfl w.heap.size rfl 37 _ _ _ bw.out Tryz.underlying37 rfl aF ?_)
    |(go_at_call 51;(with_reducible refine(oq.out _).mono ?_);rintro r w5 ⟨rfl,rfl⟩))
  obtain⟨w5,lh⟩:∃w5,w5=w4.alloc (.cells (aL x) 37):=⟨_,rfl⟩
  obtain⟨Q,hQ⟩:∃Q,Q=w4.heap.size:=⟨_,rfl⟩
  have ay:Below w4.heap.size w4 w5:=by rw[lh];exact Below.newly' _ _
  have vw:w5.heap[Q]? =some (.cells (aL x) 37 (0,0)):=by rw[lh,hQ];exact aC _ _
  have ki:w5.heap.size=Q+1:=by rw[lh,hQ];simp
  have Av:Boxed w5 (w.heap.size+1) 72 v3:=(ay.block _ uw.lt).trans uw;have yk:=tw.later ay;have l6:KW U8 B 0 w w5:=y5.trans (KW.below ay hO);have qm:iF w5:=fun j hj=>(l6.1.cell (p:=⟨4,j,none⟩) Cy).trans (hT j hj)
  have B5:w.heap.size+2<=Q:=by omega
  rw[<-lh,<-hQ];clear lh ay uw tw y5 hQ bw y6;obtain⟨la,gu,hseq⟩:=wT aA9 Q B a x ha w5 hO vw (hv.low l6.1) qm;have j5:=gD gu;refine(iW (n:=5)).1 ?_;refine mF (n₀:=B) hO (aCI U8s B) (gf:=96) (lb:=#[.pointer (some ⟨Q,0,none⟩)]) rfl (iX Tryz.func96 uAu rfl)
    hseq (fun _=>rfl)
    (fun(pre:List (Stp×Cel)) V=>((∃kv,Boxed V (w.heap.size+1) 72 kv/\Buf B kv (l++bt8 (a.k+1)::nC a.k (a.ks.take pre.length) (a.xs.take pre.length)) V)/\KW U8 B 0 w V)/\Below B w5 V)
    (fun s A B' dj hs hg hr=>by
      obtain⟨⟨⟨kv,h1,h2⟩,h3⟩,h4⟩:=hs;have de:w5.heap.size<=A.heap.size:=h4.size;have hI:IKW U8s w5.heap.size A B':=pO hg de (aA _) hr;exact⟨⟨⟨kv,hI.2.2 _ _ _ _ h1 (.inr rfl),h2.ikw hI (.inl rfl)⟩,h3.ik hI hO hO⟩,h4.trans (hI.2.1.mono hO)⟩)
    (fun s A B' h hb=>by
      obtain⟨⟨⟨kv,h1,h2⟩,h3⟩,h4⟩:=h;exact⟨⟨⟨kv,hb.2.2 _ _ _ _ h1 (.inr rfl),h2.ikw hb (.inl rfl)⟩,h3.ik hb hO hO⟩,h4.trans (hb.2.1.mono hO)⟩)
    (fun s A B' h hb=>by
      obtain⟨⟨⟨kv,h1,h2⟩,h3⟩,h4⟩:=h;have de:w5.heap.size<=A.heap.size:=h4.size;exact⟨⟨⟨kv,(hb.block _ h1.lt).trans h1,h2.later hb⟩,h3.trans (KW.below hb hO)⟩,h4.trans (hb.mono hO)⟩)
    ⟨⟨⟨v3,Av,by rw[hk,show bt8 (4+1)=5 from by decide,aK,eF,eF,nC];exact yk⟩,l6⟩,bB _ _⟩
    (fun e b V=>V.heap[b]? =some (.cells (aBd e.1) 99 (0,0))/\V.heap[b+1]? =some (.cells (aL e.2) 37 (0,0)))
    (fun e b A l o o' h1 h2 h=>⟨by rw[cN (fun e=>by rw[e,h1]at h;cases h.1;cases h2)];exact h.1,by rw[cN (fun e=>by rw[e,h1]at h;cases h.2;cases h2)];exact h.2⟩)
    (fun h hn=>KW.below h hn)
    (fun e' b'=>{tmps:=#[.agg (aL x),.slice a0 l.length c0,.pointer (some ⟨w.heap.size,0,none⟩),.pointer (some ⟨w.heap.size+1,0,none⟩),.slice none 0 0,.pointer (some ⟨b',0,none⟩),.pointer (some ⟨b'+1,0,none⟩),.agg (aL x),.int .i64 4,undef,undef,undef,undef,undef,.bool true,.bool true,.slice a0 l.length c0,.slice (some ⟨w2.heap.size,0,none⟩) 1 1,v3,undef,undef,undef,undef,undef,undef,undef,undef,undef,undef,.agg (aL x),.func (.func 96) #[] #[.pointer (some ⟨Q,0,none⟩)],.agg (aBd e'.1),.agg (aL e'.2),undef,undef,undef,undef,undef,undef,undef,undef,undef,undef,undef,undef,undef,undef,undef,undef,undef,undef,undef,undef,undef,undef],defers:=[]}) ?assign ?body ?done
  case assign=>
    exact Aa5
  case body=>
    rintro j pre e' b' V q8 ⟨⟨⟨kv,ux,l7⟩,l8⟩,jd⟩ ⟨j2,lj⟩ hpl;obtain⟨q,hq⟩:∃q,q=pre.length:=⟨_,rfl⟩
    have jz:q<a.xs.length:=by
      exact Ac2
    have hat:(gV a la)[q]? =some e':=by
      obtain⟨t,ht⟩:=hpl;rw[<-ht,hq];simp
    obtain⟨cq,ou⟩:=List.getElem?_zip_eq_some.1 hat;have B6:VAt (fun g=>g<B) V (a.xs[q]) e'.2:=by
      exact Ac9
    obtain⟨ky,uv⟩:∃ky,ky=nC a.k (a.ks.take q) (a.xs.take q):=⟨_,rfl⟩
    have Fm:=xG (k:=a.k) (ks:=a.ks) jz;rw[<-uv]at Fm;rw[<-hq,<-uv]at l7;have HQ:=iH hq;have Aw:=iH Fm;obtain⟨⟨s1,s2,s3⟩,xc⟩:=e';have Fo:s1=0:=by
      unfold tQ at cq;rw[if_pos hk,List.getElem?_map]at cq;obtain⟨i,_,hi⟩:=eR.1 cq;exact(aU Prod.fst hi).symm
    subst Fo;have ce:V.cell? ⟨b',0,none⟩=some (.int .i64 0):=aG j2 rfl;obtain⟨L,hL⟩:∃L,L=l++bt8 (a.k+1)::ky:=⟨_,rfl⟩
    rw[<-hL]at l7;have rl:=iH hL;obtain⟨a6,c6,rfl⟩:=l7.len;have cK:=ux.cell;have pg:=iH (fun W uu l' (hb:Below B V W) (hf:Buf B uu l' W) (hl:l'.length+(dW a.xs[q]).length<=1000000000000)=>ih (a.xs[q]) (aX jz) W xc B uu l' (ha.part (aX jz)) (B6.low hb) (qm.low Cy (jd.trans hb)) Cy hf hl);have dx:=aBz (k:=a.k) (ks:=a.ks) (xs:=a.xs) (q+1);rw[Aw.out]at dx;have fw:Hid (L.length+((if a.k=5 then aBj (a.ks.getD q ⟨#[]⟩)else[]).length+(dW a.xs[q]).length)<=1000000000000):=by
      exact Ae1
    obtain⟨kt,y7⟩:∃kt,kt=dW a.xs[q]:=⟨_,rfl⟩
    rw[<-y7]at pg Aw fw;have uc:=iH lj;have Ow:=iH ux;have xl:=iH l7;have ua:=iH l8;have fh:=iH jd;have gw:=iH q8;have oy:=iH (And.intro ki (And.intro B5 om));clear j2 lj hpl jd q8 ux l7 l8 ki B5 hseq gu j5 vw Av yk l6 qm mw hv ha hT an sl hq Fm hat cq ou B6 dx y7 uv jz ih hL;have bq:(if a.k=5 then aBj (a.ks.getD q ⟨#[]⟩)else[])=[]:=if_neg hO;rw[bq]at Aw fw;gi_wp2_with (first
      |(refine aKA rfl 37 _ rfl (b'+1) rfl 37 _ _ _ uc.out Tryz.underlying37 rfl aF ?_))
    refine⟨trivial,(CallsIn.inRound j (dD.2 (pg.out V _ L (bB _ _) xl.out (by have:=fw.out;simp only[aK]at this;omega)))).mono ?_⟩;rintro r V2 ⟨v2,rfl,Cz,Ax⟩;obtain⟨a7,c7,rfl⟩:=Cz.len;have B7:Boxed V2 (w.heap.size+1) 72 _:=Ax.2.2.1 _ _ _ _ Ow.out uAv;have DN:=B7.cell;have DO:=B7.frozen;have du:=iH B7;have R9:=iH Cz;have fy:=iH Ax;clear Cz Ax B7;gi_wp2
    have Ox:=oy.out;obtain⟨v8,J7⟩:∃v8,v8=Value.slice a7 (L.length+kt.length) c7:=⟨_,rfl⟩
    have J8:Buf B v8 (L++kt) V2:=by have h:=R9.out;rw[aB]at h;rw[J7];exact h
    rw[<-J7];obtain⟨V3,Fp⟩:∃V3,V3=V2.setCell ⟨w.heap.size+1,0,none⟩ v8:=⟨_,rfl⟩
    rw[<-Fp];have jv:V2.grownBy V3 (some (w.heap.size+1)):=by rw[Fp];exact eP V2 _ _
    have Sa:Boxed V3 (w.heap.size+1) 72 v8:=by rw[Fp];exact du.out.set _
    have um:Buf B v8 (L++kt) V3:=J8.grown jv (J8.ne_box du.out uAv);have Fq:KW U8 B 0 V V2:=fy.out;have jn:∀Y,KW U8s B Y V V3:=fun Y=>((Fq.mono fun _ h=>.inl h).up (aS Y)).trans (KW.grown jv hO du.out.lt du.out (.inr rfl))
    have Dt:KW U8 B 0 w V3:=(ua.out.trans Fq).new jv hO hO;refine⟨⟨(jn 0).2.1,fun g o hg ho hc=>(jn w5.heap.size).2.2.2 g o hg ho hc⟩,jn _,⟨⟨v8,Sa,?_⟩,Dt⟩,fh.out.trans (jn 0).1⟩;have he:l++bt8 (a.k+1)::nC a.k (a.ks.take (pre++[((0,s2,s3),xc)]).length) (a.xs.take (pre++[((0,s2,s3),xc)]).length)=L++kt:=by
      exact Al1
    first|rw[he]|(rw[hk,show(4:Int)+1=5 from by decide]at he;rw[he])
    exact um
  case done=>
    exact Aa0
theorem aJU (a:Tr) (hk:a.k=6) (ih:∀y∈a.xs,wP y):wP a:=by
  intro w x B v l ha hv hT Cy mw an;have sl:dW a=bt8 (a.k+1)::(nC a.k a.ks a.xs++[0]):=by
    cases a with
    |nd k n t ks xs=>rw[dW];exact if_neg (by have h:k=6:=hk;omega)
  rw[sl]at an ⊢;obtain⟨a0,c0,rfl⟩:=mw.len;obtain⟨w1,ag⟩:∃w1,(w.alloc (.cells (aL x) 37)).alloc (.cells #[.slice a0 l.length c0] 72)=w1:=⟨_,rfl⟩
  obtain⟨af,ai,aw,al⟩:=fL ag;have om:=mw.2;have gd:Boxed w1 (w.heap.size+1) 72 (.slice a0 l.length c0):=aw;have HX1:=iH ai;have HB1:=iH af;have HS1:=iH al;have ox:=iH gd;have dh:=iH (iQ w1 x);rw[hv.k,hk]at dh;have oq:=iH (fun W=>dD.1 (rJ 5 x W));have yy:l.length+1<=140737488355328:=by simp only[aD]at an;omega
  have sq:=iH (fun W (hb:Below w1.heap.size w1 W)=>mw.later (tW af hb));clear ai aw af gd;refine(dD (n:=5)).1 ?_;refine fZ Tryz.func56 rfl trivial ?_ rfl;refine iW.2 ?_;simp only[Tryz.ntmps56,bI,aD,aK,Nat.reduceAdd,Nat.reduceSub,bT,bS,cH,bU,aT,aP];go_upto_region 1 with fail
  clear ag;go_upto_region 9 with(first
    |(refine aW rfl 37 _ rfl w.heap.size rfl 37 _ _ _ HX1.out Tryz.underlying37 rfl aF ?_)
    |(go_at_call 32;refine dh.out.mono ?_;rintro r w2 ⟨rfl,ah⟩;have aq:=iH ah;have jx:Boxed w2 (w.heap.size+1) 72 (.slice a0 l.length c0):=(ah.block _ ox.out.lt).trans ox.out;have Fl:=jx.cell;have du:=iH jx;have o8:=iH (Below.newly' w2 (.cells #[.int .u8 7] 5));clear jx ah)
    |(at_builtin;go_loud (refine aA3 rfl (.tmp 26) (.tmp 27) rfl rfl (sq.out _ aq.out) [7] _ rfl 1 1 rfl rfl (by exact yy) ?_)
      intro v3 w3 h3 jv;obtain⟨a3,c3,rfl⟩:=h3.len;have nh:Boxed w3 (w.heap.size+1) 72 (.slice a0 l.length c0):=((sq.out _ aq.out).later o8.out).keepsT jv uAv ((o8.out.block _ du.out.lt).trans du.out);have J6:=nh.cell;have R7:=nh.frozen;have gb:=iH nh;have Dl:=iH h3;have je:=iH jv;clear h3 jv nh))
  have R8:=HS1.out;obtain⟨v3,B4⟩:∃v3,v3=Value.slice a3 (l.length+1) c3:=⟨_,rfl⟩
  have um:Buf B v3 (l++[7]) w3:=by have h:=Dl.out;rw[aB]at h;rw[B4];exact h
  obtain⟨w4,j0⟩:∃w4,w4=w3.setCell ⟨w.heap.size+1,0,none⟩ v3:=⟨_,rfl⟩
  have ny:w3.grownBy w4 (some (w.heap.size+1)):=by rw[j0];exact eP w3 _ _
  have uw:Boxed w4 (w.heap.size+1) 72 v3:=by rw[j0];exact gb.out.set _
  have tw:Buf B v3 (l++[7]) w4:=um.grown ny (um.ne_box gb.out uAv);have yz:Below w.heap.size w (w2.alloc (.cells #[.int .u8 7] 5)):=(tW HB1.out aq.out).trans (o8.out.mono (aI HB1.out.size aq.out.size));have B1:=(sq.out _ aq.out).later o8.out;have y5:KW U8 B 0 w w4:=((KW.below yz om).trans (B1.kw (Ts:=U8) je.out (aA _) rfl)).new ny hO om;have lf:w3.heap[w.heap.size]? =some (.cells (aL x) 37 (0,0)):=B1.keepsT je.out uAv ((o8.out.block _ uIu).trans (kW aq.out HX1.out));have bw:=iH ((ny.block _ (gZ lf) uAy).trans lf);have y6:w.heap.size+2<=w4.heap.size:=by have h1:=aq.out.size;have h2:=o8.out.size;have h3:=je.out.size;have h4:=ny.size;omega
  rw[<-B4,<-j0];clear B4 j0 ny um yz B1 lf Dl je gb HX1 ox aq du o8 sq Fl J6 R7 dh;go_wp2_with (first
    |(refine aW rfl 37 _ rfl w.heap.size rfl 37 _ _ _ bw.out Tryz.underlying37 rfl aF ?_)
    |(go_at_call 51;(with_reducible refine(oq.out _).mono ?_);rintro r w5 ⟨rfl,rfl⟩))
  obtain⟨w5,lh⟩:∃w5,w5=w4.alloc (.cells (aL x) 37):=⟨_,rfl⟩
  obtain⟨Q,hQ⟩:∃Q,Q=w4.heap.size:=⟨_,rfl⟩
  have ay:Below w4.heap.size w4 w5:=by rw[lh];exact Below.newly' _ _
  have vw:w5.heap[Q]? =some (.cells (aL x) 37 (0,0)):=by rw[lh,hQ];exact aC _ _
  have ki:w5.heap.size=Q+1:=by rw[lh,hQ];simp
  have Av:Boxed w5 (w.heap.size+1) 72 v3:=(ay.block _ uw.lt).trans uw;have yk:=tw.later ay;have l6:KW U8 B 0 w w5:=y5.trans (KW.below ay hO);have qm:iF w5:=fun j hj=>(l6.1.cell (p:=⟨4,j,none⟩) Cy).trans (hT j hj)
  have B5:w.heap.size+2<=Q:=by omega
  rw[<-lh,<-hQ];clear lh ay uw tw y5 hQ bw y6;obtain⟨la,gu,hseq⟩:=wT aA9 Q B a x ha w5 hO vw (hv.low l6.1) qm;have j5:=gD gu;refine(iW (n:=5)).1 ?_;refine mF (n₀:=B) hO (aCI U8s B) (gf:=96) (lb:=#[.pointer (some ⟨Q,0,none⟩)]) rfl (iX Tryz.func96 uAu rfl)
    hseq (fun _=>rfl)
    (fun(pre:List (Stp×Cel)) V=>((∃kv,Boxed V (w.heap.size+1) 72 kv/\Buf B kv (l++bt8 (a.k+1)::nC a.k (a.ks.take pre.length) (a.xs.take pre.length)) V)/\KW U8 B 0 w V)/\Below B w5 V)
    (fun s A B' dj hs hg hr=>by
      obtain⟨⟨⟨kv,h1,h2⟩,h3⟩,h4⟩:=hs;have de:w5.heap.size<=A.heap.size:=h4.size;have hI:IKW U8s w5.heap.size A B':=pO hg de (aA _) hr;exact⟨⟨⟨kv,hI.2.2 _ _ _ _ h1 (.inr rfl),h2.ikw hI (.inl rfl)⟩,h3.ik hI hO hO⟩,h4.trans (hI.2.1.mono hO)⟩)
    (fun s A B' h hb=>by
      obtain⟨⟨⟨kv,h1,h2⟩,h3⟩,h4⟩:=h;exact⟨⟨⟨kv,hb.2.2 _ _ _ _ h1 (.inr rfl),h2.ikw hb (.inl rfl)⟩,h3.ik hb hO hO⟩,h4.trans (hb.2.1.mono hO)⟩)
    (fun s A B' h hb=>by
      obtain⟨⟨⟨kv,h1,h2⟩,h3⟩,h4⟩:=h;have de:w5.heap.size<=A.heap.size:=h4.size;exact⟨⟨⟨kv,(hb.block _ h1.lt).trans h1,h2.later hb⟩,h3.trans (KW.below hb hO)⟩,h4.trans (hb.mono hO)⟩)
    ⟨⟨⟨v3,Av,by rw[hk,show bt8 (6+1)=7 from by decide,aK,eF,eF,nC];exact yk⟩,l6⟩,bB _ _⟩
    (fun e b V=>V.heap[b]? =some (.cells (aBd e.1) 99 (0,0))/\V.heap[b+1]? =some (.cells (aL e.2) 37 (0,0)))
    (fun e b A l o o' h1 h2 h=>⟨by rw[cN (fun e=>by rw[e,h1]at h;cases h.1;cases h2)];exact h.1,by rw[cN (fun e=>by rw[e,h1]at h;cases h.2;cases h2)];exact h.2⟩)
    (fun h hn=>KW.below h hn)
    (fun e' b'=>{tmps:=#[.agg (aL x),.slice a0 l.length c0,.pointer (some ⟨w.heap.size,0,none⟩),.pointer (some ⟨w.heap.size+1,0,none⟩),.slice none 0 0,.pointer (some ⟨b',0,none⟩),.pointer (some ⟨b'+1,0,none⟩),.agg (aL x),.int .i64 6,undef,undef,undef,undef,undef,.bool false,.bool false,undef,undef,undef,.bool false,.bool false,undef,undef,undef,.bool true,.bool true,.slice a0 l.length c0,.slice (some ⟨w2.heap.size,0,none⟩) 1 1,v3,.agg (aL x),.func (.func 96) #[] #[.pointer (some ⟨Q,0,none⟩)],.agg (aBd e'.1),.agg (aL e'.2),undef,undef,undef,undef,undef,undef,undef,undef,undef,undef,undef,undef,undef,undef,undef,undef,undef,undef,undef,undef,undef,undef],defers:=[]}) ?assign ?body ?done
  case assign=>
    exact Aa5
  case body=>
    rintro j pre e' b' V q8 ⟨⟨⟨kv,ux,l7⟩,l8⟩,jd⟩ ⟨j2,lj⟩ hpl;obtain⟨q,hq⟩:∃q,q=pre.length:=⟨_,rfl⟩
    have jz:q<a.xs.length:=by
      exact Ac2
    have hat:(gV a la)[q]? =some e':=by
      obtain⟨t,ht⟩:=hpl;rw[<-ht,hq];simp
    obtain⟨cq,ou⟩:=List.getElem?_zip_eq_some.1 hat;have B6:VAt (fun g=>g<B) V (a.xs[q]) e'.2:=by
      exact Ac9
    obtain⟨ky,uv⟩:∃ky,ky=nC a.k (a.ks.take q) (a.xs.take q):=⟨_,rfl⟩
    have Fm:=xG (k:=a.k) (ks:=a.ks) jz;rw[<-uv]at Fm;rw[<-hq,<-uv]at l7;have HQ:=iH hq;have Aw:=iH Fm;obtain⟨⟨s1,s2,s3⟩,xc⟩:=e';have Fo:s1=2/\kb s3=dW a.xs[q]:=by
      unfold tQ at cq;rw[if_neg hO,if_neg hO,List.getElem?_map,List.getElem?_eq_getElem jz]at cq;have hi:=aH cq;have h2:s3=kB a.xs[q]:=(aU (fun e=>e.2.2) hi).symm;exact⟨(aU Prod.fst hi).symm,by rw[h2,aB0]⟩
    obtain⟨rfl,gi⟩:=Fo;have ce:V.cell? ⟨b',0,none⟩=some (.int .i64 2):=aG j2 rfl;have ct:V.cell? ⟨b',2,none⟩=some (.string s3):=aG j2 rfl;obtain⟨L,hL⟩:∃L,L=l++bt8 (a.k+1)::ky:=⟨_,rfl⟩
    rw[<-hL]at l7;have rl:=iH hL;obtain⟨a6,c6,rfl⟩:=l7.len;have cK:=ux.cell;have pg:=iH (fun W uu l' (hb:Below B V W) (hf:Buf B uu l' W) (hl:l'.length+(dW a.xs[q]).length<=1000000000000)=>ih (a.xs[q]) (aX jz) W xc B uu l' (ha.part (aX jz)) (B6.low hb) (qm.low Cy (jd.trans hb)) Cy hf hl);have dx:=aBz (k:=a.k) (ks:=a.ks) (xs:=a.xs) (q+1);rw[Aw.out]at dx;have fw:Hid (L.length+((if a.k=5 then aBj (a.ks.getD q ⟨#[]⟩)else[]).length+(dW a.xs[q]).length)<=1000000000000):=by
      exact Ae1
    obtain⟨kt,y7⟩:∃kt,kt=dW a.xs[q]:=⟨_,rfl⟩
    rw[<-y7]at pg Aw fw gi;have cd:=iH gi;clear gi;have uc:=iH lj;have Ow:=iH ux;have xl:=iH l7;have ua:=iH l8;have fh:=iH jd;have gw:=iH q8;have oy:=iH (And.intro ki (And.intro B5 om));clear j2 lj hpl jd q8 ux l7 l8 ki B5 hseq gu j5 vw Av yk l6 qm mw hv ha hT an sl hq Fm hat cq ou B6 dx y7 uv jz ih hL;have bq:(if a.k=5 then aBj (a.ks.getD q ⟨#[]⟩)else[])=[]:=if_neg hO;rw[bq]at Aw fw;gi_wp2_with (first
      |(refine uA rfl (fun c' hc=>by cases hc) fun K hK=> ?_;refine aGg _ _ rfl (B:=B) (l:=L) rfl xl.out s3 rfl (by have h:=fw.out;have h3:=aU List.length cd.out;have h4:(kb s3).length=s3.size:=bM;omega) ?_;intro v2 V2 Cz kx;refine hK _ _ ?_;obtain⟨a7,c7,rfl⟩:=Cz.len;have B7:Boxed V2 (w.heap.size+1) 72 _:=xl.out.keepsT kx uAv Ow.out;have DN:=B7.cell;have DO:=B7.frozen;have du:=iH B7;have R9:=iH Cz;have HG2:=iH kx;clear Cz kx B7 hK K))
    have Ox:=oy.out;obtain⟨v8,J7⟩:∃v8,v8=Value.slice a7 (L.length+(kb s3).length) c7:=⟨_,rfl⟩
    have J8:Buf B v8 (L++kt) V2:=by have h:=R9.out;rw[aB]at h;rw[J7,<-cd.out];exact h
    rw[<-J7];obtain⟨V3,Fp⟩:∃V3,V3=V2.setCell ⟨w.heap.size+1,0,none⟩ v8:=⟨_,rfl⟩
    rw[<-Fp];have jv:V2.grownBy V3 (some (w.heap.size+1)):=by rw[Fp];exact eP V2 _ _
    have Sa:Boxed V3 (w.heap.size+1) 72 v8:=by rw[Fp];exact du.out.set _
    have um:Buf B v8 (L++kt) V3:=J8.grown jv (J8.ne_box du.out uAv);have Fq:KW U8 B 0 V V2:=xl.out.kw HG2.out (aA _) rfl;have jn:∀Y,KW U8s B Y V V3:=fun Y=>((Fq.mono fun _ h=>.inl h).up (aS Y)).trans (KW.grown jv hO du.out.lt du.out (.inr rfl))
    have Dt:KW U8 B 0 w V3:=(ua.out.trans Fq).new jv hO hO;refine⟨⟨(jn 0).2.1,fun g o hg ho hc=>(jn w5.heap.size).2.2.2 g o hg ho hc⟩,jn _,⟨⟨v8,Sa,?_⟩,Dt⟩,fh.out.trans (jn 0).1⟩;have he:l++bt8 (a.k+1)::nC a.k (a.ks.take (pre++[((2,s2,s3),xc)]).length) (a.xs.take (pre++[((2,s2,s3),xc)]).length)=L++kt:=by
      exact Al1
    first|rw[he]|(rw[hk,show(6:Int)+1=7 from by decide]at he;rw[he])
    exact um
  case done=>
    exact Aa0
theorem aJV (a:Tr) (hk:a.k=5) (ih:∀y∈a.xs,wP y):wP a:=by
  intro w x B v l ha hv hT Cy mw an;have sl:dW a=bt8 (a.k+1)::(nC a.k a.ks a.xs++[0]):=by
    cases a with
    |nd k n t ks xs=>rw[dW];exact if_neg (by have h:k=5:=hk;omega)
  rw[sl]at an ⊢;obtain⟨a0,c0,rfl⟩:=mw.len;obtain⟨w1,ag⟩:∃w1,(w.alloc (.cells (aL x) 37)).alloc (.cells #[.slice a0 l.length c0] 72)=w1:=⟨_,rfl⟩
  obtain⟨af,ai,aw,al⟩:=fL ag;have om:=mw.2;have gd:Boxed w1 (w.heap.size+1) 72 (.slice a0 l.length c0):=aw;have HX1:=iH ai;have HB1:=iH af;have HS1:=iH al;have ox:=iH gd;have dh:=iH (iQ w1 x);rw[hv.k,hk]at dh;have oq:=iH (fun W=>dD.1 (rJ 5 x W));have yy:l.length+1<=140737488355328:=by simp only[aD]at an;omega
  have sq:=iH (fun W (hb:Below w1.heap.size w1 W)=>mw.later (tW af hb));clear ai aw af gd;refine(dD (n:=5)).1 ?_;refine fZ Tryz.func56 rfl trivial ?_ rfl;refine iW.2 ?_;simp only[Tryz.ntmps56,bI,aD,aK,Nat.reduceAdd,Nat.reduceSub,bT,bS,cH,bU,aT,aP];go_upto_region 1 with fail
  clear ag;go_upto_region 9 with(first
    |(refine aW rfl 37 _ rfl w.heap.size rfl 37 _ _ _ HX1.out Tryz.underlying37 rfl aF ?_)
    |(go_at_call 32;refine dh.out.mono ?_;rintro r w2 ⟨rfl,ah⟩;have aq:=iH ah;have jx:Boxed w2 (w.heap.size+1) 72 (.slice a0 l.length c0):=(ah.block _ ox.out.lt).trans ox.out;have Fl:=jx.cell;have du:=iH jx;have o8:=iH (Below.newly' w2 (.cells #[.int .u8 6] 5));clear jx ah)
    |(at_builtin;go_loud (refine aA3 rfl (.tmp 21) (.tmp 22) rfl rfl (sq.out _ aq.out) [6] _ rfl 1 1 rfl rfl (by exact yy) ?_)
      intro v3 w3 h3 jv;obtain⟨a3,c3,rfl⟩:=h3.len;have nh:Boxed w3 (w.heap.size+1) 72 (.slice a0 l.length c0):=((sq.out _ aq.out).later o8.out).keepsT jv uAv ((o8.out.block _ du.out.lt).trans du.out);have J6:=nh.cell;have R7:=nh.frozen;have gb:=iH nh;have Dl:=iH h3;have je:=iH jv;clear h3 jv nh))
  have R8:=HS1.out;obtain⟨v3,B4⟩:∃v3,v3=Value.slice a3 (l.length+1) c3:=⟨_,rfl⟩
  have um:Buf B v3 (l++[6]) w3:=by have h:=Dl.out;rw[aB]at h;rw[B4];exact h
  obtain⟨w4,j0⟩:∃w4,w4=w3.setCell ⟨w.heap.size+1,0,none⟩ v3:=⟨_,rfl⟩
  have ny:w3.grownBy w4 (some (w.heap.size+1)):=by rw[j0];exact eP w3 _ _
  have uw:Boxed w4 (w.heap.size+1) 72 v3:=by rw[j0];exact gb.out.set _
  have tw:Buf B v3 (l++[6]) w4:=um.grown ny (um.ne_box gb.out uAv);have yz:Below w.heap.size w (w2.alloc (.cells #[.int .u8 6] 5)):=(tW HB1.out aq.out).trans (o8.out.mono (aI HB1.out.size aq.out.size));have B1:=(sq.out _ aq.out).later o8.out;have y5:KW U8 B 0 w w4:=((KW.below yz om).trans (B1.kw (Ts:=U8) je.out (aA _) rfl)).new ny hO om;have lf:w3.heap[w.heap.size]? =some (.cells (aL x) 37 (0,0)):=B1.keepsT je.out uAv ((o8.out.block _ uIu).trans (kW aq.out HX1.out));have bw:=iH ((ny.block _ (gZ lf) uAy).trans lf);have y6:w.heap.size+2<=w4.heap.size:=by have h1:=aq.out.size;have h2:=o8.out.size;have h3:=je.out.size;have h4:=ny.size;omega
  rw[<-B4,<-j0];clear B4 j0 ny um yz B1 lf Dl je gb HX1 ox aq du o8 sq Fl J6 R7 dh;go_wp2_with (first
    |(refine aW rfl 37 _ rfl w.heap.size rfl 37 _ _ _ bw.out Tryz.underlying37 rfl aF ?_)
    |(go_at_call 51;(with_reducible refine(oq.out _).mono ?_);rintro r w5 ⟨rfl,rfl⟩))
  obtain⟨w5,lh⟩:∃w5,w5=w4.alloc (.cells (aL x) 37):=⟨_,rfl⟩
  obtain⟨Q,hQ⟩:∃Q,Q=w4.heap.size:=⟨_,rfl⟩
  have ay:Below w4.heap.size w4 w5:=by rw[lh];exact Below.newly' _ _
  have vw:w5.heap[Q]? =some (.cells (aL x) 37 (0,0)):=by rw[lh,hQ];exact aC _ _
  have ki:w5.heap.size=Q+1:=by rw[lh,hQ];simp
  have Av:Boxed w5 (w.heap.size+1) 72 v3:=(ay.block _ uw.lt).trans uw;have yk:=tw.later ay;have l6:KW U8 B 0 w w5:=y5.trans (KW.below ay hO);have qm:iF w5:=fun j hj=>(l6.1.cell (p:=⟨4,j,none⟩) Cy).trans (hT j hj)
  have B5:w.heap.size+2<=Q:=by omega
  rw[<-lh,<-hQ];clear lh ay uw tw y5 hQ bw y6;obtain⟨la,gu,hseq⟩:=wT aA9 Q B a x ha w5 hO vw (hv.low l6.1) qm;have j5:=gD gu;refine(iW (n:=5)).1 ?_;refine mF (n₀:=B) hO (aCI U8s B) (gf:=96) (lb:=#[.pointer (some ⟨Q,0,none⟩)]) rfl (iX Tryz.func96 uAu rfl)
    hseq (fun _=>rfl)
    (fun(pre:List (Stp×Cel)) V=>((∃kv,Boxed V (w.heap.size+1) 72 kv/\Buf B kv (l++bt8 (a.k+1)::nC a.k (a.ks.take pre.length) (a.xs.take pre.length)) V)/\KW U8 B 0 w V)/\Below B w5 V)
    (fun s A B' dj hs hg hr=>by
      obtain⟨⟨⟨kv,h1,h2⟩,h3⟩,h4⟩:=hs;have de:w5.heap.size<=A.heap.size:=h4.size;have hI:IKW U8s w5.heap.size A B':=pO hg de (aA _) hr;exact⟨⟨⟨kv,hI.2.2 _ _ _ _ h1 (.inr rfl),h2.ikw hI (.inl rfl)⟩,h3.ik hI hO hO⟩,h4.trans (hI.2.1.mono hO)⟩)
    (fun s A B' h hb=>by
      obtain⟨⟨⟨kv,h1,h2⟩,h3⟩,h4⟩:=h;exact⟨⟨⟨kv,hb.2.2 _ _ _ _ h1 (.inr rfl),h2.ikw hb (.inl rfl)⟩,h3.ik hb hO hO⟩,h4.trans (hb.2.1.mono hO)⟩)
    (fun s A B' h hb=>by
      obtain⟨⟨⟨kv,h1,h2⟩,h3⟩,h4⟩:=h;have de:w5.heap.size<=A.heap.size:=h4.size;exact⟨⟨⟨kv,(hb.block _ h1.lt).trans h1,h2.later hb⟩,h3.trans (KW.below hb hO)⟩,h4.trans (hb.mono hO)⟩)
    ⟨⟨⟨v3,Av,by rw[hk,show bt8 (5+1)=6 from by decide,aK,eF,eF,nC];exact yk⟩,l6⟩,bB _ _⟩
    (fun e b V=>V.heap[b]? =some (.cells (aBd e.1) 99 (0,0))/\V.heap[b+1]? =some (.cells (aL e.2) 37 (0,0)))
    (fun e b A l o o' h1 h2 h=>⟨by rw[cN (fun e=>by rw[e,h1]at h;cases h.1;cases h2)];exact h.1,by rw[cN (fun e=>by rw[e,h1]at h;cases h.2;cases h2)];exact h.2⟩)
    (fun h hn=>KW.below h hn)
    (fun e' b'=>{tmps:=#[.agg (aL x),.slice a0 l.length c0,.pointer (some ⟨w.heap.size,0,none⟩),.pointer (some ⟨w.heap.size+1,0,none⟩),.slice none 0 0,.pointer (some ⟨b',0,none⟩),.pointer (some ⟨b'+1,0,none⟩),.agg (aL x),.int .i64 5,undef,undef,undef,undef,undef,.bool false,.bool false,undef,undef,undef,.bool true,.bool true,.slice a0 l.length c0,.slice (some ⟨w2.heap.size,0,none⟩) 1 1,v3,undef,undef,undef,undef,undef,.agg (aL x),.func (.func 96) #[] #[.pointer (some ⟨Q,0,none⟩)],.agg (aBd e'.1),.agg (aL e'.2),undef,undef,undef,undef,undef,undef,undef,undef,undef,undef,undef,undef,undef,undef,undef,undef,undef,undef,undef,undef,undef,undef],defers:=[]}) ?assign ?body ?done
  case assign=>
    exact Aa5
  case body=>
    rintro j pre e' b' V q8 ⟨⟨⟨kv,ux,l7⟩,l8⟩,jd⟩ ⟨j2,lj⟩ hpl;obtain⟨q,hq⟩:∃q,q=pre.length:=⟨_,rfl⟩
    have jz:q<a.xs.length:=by
      exact Ac2
    have hat:(gV a la)[q]? =some e':=by
      obtain⟨t,ht⟩:=hpl;rw[<-ht,hq];simp
    obtain⟨cq,ou⟩:=List.getElem?_zip_eq_some.1 hat;have B6:VAt (fun g=>g<B) V (a.xs[q]) e'.2:=by
      exact Ac9
    obtain⟨ky,uv⟩:∃ky,ky=nC a.k (a.ks.take q) (a.xs.take q):=⟨_,rfl⟩
    have Fm:=xG (k:=a.k) (ks:=a.ks) jz;rw[<-uv]at Fm;rw[<-hq,<-uv]at l7;have HQ:=iH hq;have Aw:=iH Fm;obtain⟨⟨s1,s2,s3⟩,xc⟩:=e';have Fo:s1=1/\s3=a.ks.getD q ⟨#[]⟩/\s3.size<=2000000:=by
      unfold tQ at cq;rw[if_neg hO,if_pos hk,List.getElem?_map]at cq;obtain⟨y,hy,hi⟩:=eR.1 cq;have h3:y=s3:=aU (fun e=>e.2.2) hi;refine⟨(aU Prod.fst hi).symm,by rw[List.getD_eq_getElem?_getD,hy,<-h3];rfl,?_⟩;rw[<-h3];exact(fO.1 ha.2).2.1 y (fK hy)
    obtain⟨rfl,gi,vv⟩:=Fo;have ce:V.cell? ⟨b',0,none⟩=some (.int .i64 1):=aG j2 rfl;have ct:V.cell? ⟨b',2,none⟩=some (.string s3):=aG j2 rfl;obtain⟨L,hL⟩:∃L,L=l++bt8 (a.k+1)::ky:=⟨_,rfl⟩
    rw[<-hL]at l7;have rl:=iH hL;obtain⟨a6,c6,rfl⟩:=l7.len;have cK:=ux.cell;have pg:=iH (fun W uu l' (hb:Below B V W) (hf:Buf B uu l' W) (hl:l'.length+(dW a.xs[q]).length<=1000000000000)=>ih (a.xs[q]) (aX jz) W xc B uu l' (ha.part (aX jz)) (B6.low hb) (qm.low Cy (jd.trans hb)) Cy hf hl);have dx:=aBz (k:=a.k) (ks:=a.ks) (xs:=a.xs) (q+1);rw[Aw.out]at dx;have fw:Hid (L.length+((if a.k=5 then aBj (a.ks.getD q ⟨#[]⟩)else[]).length+(dW a.xs[q]).length)<=1000000000000):=by
      exact Ae1
    obtain⟨kt,y7⟩:∃kt,kt=dW a.xs[q]:=⟨_,rfl⟩
    rw[<-y7]at pg Aw fw;have uc:=iH lj;have Ow:=iH ux;have xl:=iH l7;have ua:=iH l8;have fh:=iH jd;have gw:=iH q8;have oy:=iH (And.intro ki (And.intro B5 om));clear j2 lj hpl jd q8 ux l7 l8 ki B5 hseq gu j5 vw Av yk l6 qm mw hv ha hT an sl hq Fm hat cq ou B6 dx y7 uv jz ih hL;have bq:(if a.k=5 then aBj (a.ks.getD q ⟨#[]⟩)else[])=aBj s3:=by rw[if_pos hk,<-gi]
    rw[bq]at Aw fw;have vu:=iH (fun W=>aNZ 3 0 s3 W aJt (aI vv uAv));obtain⟨Kb,Mt⟩:∃Kb,Kb=pW (scT 3 0 s3):=⟨_,rfl⟩
    have Sd:aBj s3=Kb:=Mt.symm;rw[<-Mt]at vu;rw[Sd]at Aw fw;clear bq gi vv Mt Sd;have Se:L.length+(⟨Kb.toArray⟩:ByteArray).size<=140737488355328:=by
      have h:=fw.out;have h4:(⟨Kb.toArray⟩:ByteArray).size=Kb.length:=by simp[ByteArray.size]
      omega
    have Yy:=iH Se;clear Se;have Wm:=iH ct;have Mu:=iH cK;gi_wp2_with fail
    have ar:Hid (∀W,Below V.heap.size V W->W.cell? ⟨w.heap.size+1,0,none⟩=some (.slice a6 L.length c6)/\W.cell? ⟨b',2,none⟩=some (.string s3)):=fun W hW=>⟨dQ Mu.out hW,dQ Wm.out hW⟩
    have HW:Hid (Below V.heap.size V V.drew):=aY V;refine rN (S:=(fun W=>W.cell? ⟨w.heap.size+1,0,none⟩=some (.slice a6 L.length c6)/\W.cell? ⟨b',2,none⟩=some (.string s3))) [5,6] uAu uAu (fun⟨_,_,h⟩=>h) uAw (fun ab=> ?_);refine tkL 0 43 (h:=?_);refine tkL 1 44 (h:=?_);(try simp only[pq]);refine tkL 2 45 (h:=?_);refine tkL 3 46 (h:=?_);(try simp only[pq]);refine tkO 4 (some 47) (h:=fun K hK=> ?_);go_simp;go_at_call 105;(with_reducible refine(vu.out _).mono ?_);rintro r wc ⟨rfl,hb⟩;replace HW:=iH (tW HW.out hb);clear hb;dsimp only;refine hK.out _ _ uAw (fun ab=> ?_);clear hK K;(try simp only[pq]);refine tkU 5 (some 48) (h:=fun K hK=> ?_);refine aGg _ _ rfl (B:=B) (l:=L) rfl (xl.out.later HW.out) _ rfl (by exact Yy.out) ?_;intro v4 V4 h4 ny;obtain⟨a8,c8,rfl⟩:=h4.len;have uw:Boxed V4 (w.heap.size+1) 72 _:=(xl.out.later HW.out).keepsT ny uAv ((HW.out.block _ Ow.out.lt).trans Ow.out);have KH:=uw.cell;have KI:=uw.frozen;refine hK.out _ _ ?_;clear hK K;(try simp only[pq]);refine tkU 6 none (h:=fun K hK=> ?_);go_simp;refine hK.out _ _ ?_;clear hK K;(try simp only[pq]);refine bJ uAu ?_ _;clear ab;obtain⟨L5,Vh⟩:∃L5,L5=L++Kb:=⟨_,rfl⟩
    have e5:L.length+(kb ⟨Kb.toArray⟩).length=L5.length:=by rw[aP2,Vh,aB]
    have tw:Buf B (.slice a8 L5.length c8) L5 V4:=by have h:=h4;rw[aP2,aB]at h;rw[Vh,aB];exact h
    rw[e5];have Ox:=oy.out;have jd:=ua.out.2.1;have Ip:KW U8 B 0 V V4:=(KW.below HW.out hO).trans ((xl.out.later HW.out).kw ny (aA _) rfl);obtain⟨V5,Vi⟩:∃V5,V5=V4.setCell ⟨w.heap.size+1,0,none⟩ (.slice a8 L5.length c8):=⟨_,rfl⟩
    have E6:V4.grownBy V5 (some (w.heap.size+1)):=by rw[Vi];exact eP V4 _ _
    have Av:Boxed V5 (w.heap.size+1) 72 (.slice a8 L5.length c8):=by rw[Vi];exact uw.set _
    have yk:Buf B (.slice a8 L5.length c8) L5 V5:=tw.grown E6 (tw.ne_box uw uAv);have lh:KW U8 B 0 w V5:=(ua.out.trans Ip).new E6 hO hO;have Sf:KW U8s B 0 V V5:=(Ip.mono fun _ h=>.inl h).trans (KW.grown E6 hO uw.lt uw (.inr rfl));have C3:V4.heap[b'+1]? =some (.cells (aL xc) 37 (0,0)):=Ip.2.2.1 _ _ _ _ uc.out uAv;have Yz:=iH ((E6.block _ (gZ C3) (fun e=>by
      have e':=aH e;rw[e',show V4.heap[w.heap.size+1]? =_ from uw]at C3;simp only[bA,dK]at C3;exact absurd C3.2.1 uAv)).trans C3)
    have NI:=Av.cell;rw[<-Vi];have Sh:=iH Vh;have xf:=iH Av;have Xp:=iH yk;have Q0:=iH lh;have Si:=iH Sf;clear Vh e5 tw Ip Vi E6 Av yk lh Sf C3 h4 ny uw KH KI Ox jd;gi_wp2_with (first
      |(refine aKA rfl 37 _ rfl (b'+1) rfl 37 _ _ _ Yz.out Tryz.underlying37 rfl aF ?_))
    refine⟨trivial,(CallsIn.inRound j (dD.2 (pg.out V5 _ L5 Si.out.1 Xp.out (by have:=fw.out;have h5:=aU List.length Sh.out;rw[aB]at h5;omega)))).mono ?_⟩;rintro r V2 ⟨v2,rfl,Cz,Ax⟩;obtain⟨a7,c7,rfl⟩:=Cz.len;have B7:Boxed V2 (w.heap.size+1) 72 _:=Ax.2.2.1 _ _ _ _ xf.out uAv;have DN:=B7.cell;have DO:=B7.frozen;have du:=iH B7;have R9:=iH Cz;have fy:=iH Ax;clear Cz Ax B7;gi_wp2
    have Ox:=oy.out;obtain⟨v8,J7⟩:∃v8,v8=Value.slice a7 (L5.length+kt.length) c7:=⟨_,rfl⟩
    have J8:Buf B v8 (L5++kt) V2:=by have h:=R9.out;rw[aB]at h;rw[J7];exact h
    rw[<-J7];obtain⟨V3,Fp⟩:∃V3,V3=V2.setCell ⟨w.heap.size+1,0,none⟩ v8:=⟨_,rfl⟩
    rw[<-Fp];have jv:V2.grownBy V3 (some (w.heap.size+1)):=by rw[Fp];exact eP V2 _ _
    have Sa:Boxed V3 (w.heap.size+1) 72 v8:=by rw[Fp];exact du.out.set _
    have um:Buf B v8 (L5++kt) V3:=J8.grown jv (J8.ne_box du.out uAv);have Y0:KW U8s B 0 V V2:=Si.out.trans (fy.out.mono fun _ h=>.inl h);have jn:∀Y,KW U8s B Y V V3:=fun Y=>(Y0.up (aS Y)).trans (KW.grown jv hO du.out.lt du.out (.inr rfl))
    have Dt:KW U8 B 0 w V3:=(Q0.out.trans fy.out).new jv hO hO;refine⟨⟨(jn 0).2.1,fun g o hg ho hc=>(jn w5.heap.size).2.2.2 g o hg ho hc⟩,jn _,⟨⟨v8,Sa,?_⟩,Dt⟩,fh.out.trans (jn 0).1⟩;have he:l++bt8 (a.k+1)::nC a.k (a.ks.take (pre++[((1,s2,s3),xc)]).length) (a.xs.take (pre++[((1,s2,s3),xc)]).length)=L5++kt:=by
      rw[aB,cQ,<-HQ.out,Aw.out];rw[Sh.out,rl.out];simp
    first|rw[he]|(rw[hk,show(5:Int)+1=6 from by decide]at he;rw[he])
    exact um
  case done=>
    exact Aa0
theorem aFg (a:Tr):wP a:=by
 induction a using kD with
 |h k n t ks xs ih=>
  intro w x B v l ha;have hk:=ha.kind;by_cases h3:(Tr.nd k n t ks xs).k<=3
  ·exact aIB _ h3 w x B v l ha
  by_cases h4:(Tr.nd k n t ks xs).k=4
  ·exact aJT _ h4 ih w x B v l ha
  by_cases h5:(Tr.nd k n t ks xs).k=5
  ·exact aJV _ h5 ih w x B v l ha
  ·exact aJU (Tr.nd k n t ks xs) hO ih w x B v l ha
end Go.Proofs.YthmfgidbcghnfaaGreatDoor
