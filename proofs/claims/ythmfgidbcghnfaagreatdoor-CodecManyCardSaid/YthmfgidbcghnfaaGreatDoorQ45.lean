import Derived.Test.YthmfgidbcghnfaaGreatDoorQ0
import Derived.Test.YthmfgidbcghnfaaGreatDoorQ44
set_option maxRecDepth 1000000
set_option maxHeartbeats 8000000
set_option linter.unusedSimpArgs false
namespace Go.Proofs.YthmfgidbcghnfaaGreatDoor
open Go.RowKit
theorem aNJ (l:List UInt8) (a:Nat) (u:Tok) (ha:a<=l.length) (h:nxR l a=.ok u):a<=u.a/\u.a<u.e/\u.e<=l.length/\u.t.length<=l.length:=by
 obtain⟨h1,h2,h3⟩:=jP ha h;have:=(aBw h).2;exact⟨h1,h2,h3,by omega⟩
theorem aOj {l:List UInt8} {f d a n:Nat} {seen s2:List (List UInt8)} {ks kt:List ByteArray} {u:Tok} {r:Rd} (hu:nxR l a=.ok u) (hp:iS l f 5 d a n seen ks=.ok (r,s2,kt)):kt=ks++[⟨u.t.toArray⟩]/\u.t∉seen:=by
 by_cases hk:u.k=4
 case neg=>rw[aCn hu hk]at hp;cases hp
 by_cases ht:u.t∈seen
 ·rw[aAS hu hk ht]at hp;cases hp
 ·cases hc:nxR l u.e with
  |error q=>rw[aCm hu hk ht hc]at hp;cases hp
  |ok c=>
   cases hs:isS c 58 with
   |false=>rw[aCl hu hk ht hc hs]at hp;cases hp
   |true=>
    rw[aEq hu hk ht hc hs]at hp;cases hr:rdV l f (d+1) c.e n with
    |error q=>rw[hr]at hp;cases hp
    |ok R=>
     rw[hr]at hp;simp only[cM,cZ]at hp;exact⟨hp.2.2.symm,ht⟩
theorem aQ1 (B s:Nat) (bb:Int) (x:ByteArray) (f:Nat) (hx:x.size<=2000000) (hV:aJW B s bb x f):aB8 B s bb x 170 5 f:=by
 intro w rb d a n seen ks xs u S y hR jj lu hd hn ib ju j3 ha hu hf;have hl:x.data.toList.length=x.size:=cY x;obtain⟨m1,m2,m3⟩:=jj.m5 rfl;obtain⟨p1,p2,p3,p4⟩:=aNJ x.data.toList a u hO hu;have ug:kK x.data.toList.length (.nd 5 0 ⟨#[]⟩ ks xs):=by rw[hl];exact ju
 have hA:=aNb jj lu hd hn ug hO;have dz:∀r s2 kt,iS x.data.toList f 5 d a n seen ks=.ok (r,s2,kt)->fQ (cP r.t)/\vI (cP (.nd 5 0 ⟨#[]⟩ ks xs)) 1 0 ⟨u.t.toArray⟩ (cP r.t)=(cP (.nd 5 0 ⟨#[]⟩ kt (xs++[r.t])),0):=fun r s2 kt hp=>by
  obtain⟨q1,q2,q3,q4,_⟩:=jj.part hd hp;obtain⟨r1,r2,_⟩:=xB hO hO ug hp;have oh:eW r.t<=r.n:=by have:=q1.num;rw[xE]at this;omega
  obtain⟨rfl,A5⟩:=aOj hu hp;refine⟨aOi q2 q4 oh q3 r2 hO,?_⟩;rw[aSu m1 fun h=>A5 (by rw[m3];have:=wQ (f:=kb) h;rw[aCK]at this;exact this)];exact yE (aNb q1 lu hd q3 r1 hO)
 obtain⟨tk,ta,te,tn,tt⟩:=u;simp only at p1 p2 p3 p4 dz;have pd:tt∈seen↔(⟨tt.toArray⟩:ByteArray)∈ks:=by
  rw[m3];constructor
  ·intro h
   obtain⟨z,hz,e⟩:=dH.1 h;have:z=⟨tt.toArray⟩:=vU (by rw[e,aCK]);rw[<-this];exact hz
  ·intro h
   have:=wQ (f:=kb) h;rw[aCK]at this;exact this
 refine aN1 B s bb x f w rb d a n tk ta te tn tt y S seen ks hx hV hR _ j3 ib hA hd hn hO hO hO hO hu ?_ ?_ _ ?_ ?_
 ·by_cases c:tt∈seen
  ·rw[if_pos c];exact aTT m1 (pd.1 c)
  ·rw[if_neg c];exact aSt m1 (fun h=>c (pd.2 h))
 ·intro _ r T1 hp
  obtain⟨h1,h2⟩:=dz r T1.1 T1.2 hp;exact⟨h1,_,h2⟩
 ·intro q y hq hp E W h1 h2
  subst hq;rw[hp];exact⟨E,rfl,h1,h2⟩
 ·intro r T1 hp W ya h1 h2 h3
  obtain⟨s2,kt⟩:=T1;rw[(dz r s2 kt hp).2]at h1;rw[hp];exact⟨ya,rfl,h1,h2,h3⟩
theorem aN0 (B s:Nat) (bb:Int) (x:ByteArray) (f:Nat) (hx:x.size<=2000000) (hV:aJW B s bb x f):aB8 B s bb x 171 6 f:=by
 intro w rb d a n seen ks xs u S y hR jj lu hd hn ib ju j3 ha hu hf;have hl:x.data.toList.length=x.size:=cY x;obtain⟨p1,p2,p3,p4⟩:=aNJ x.data.toList a u hO hu;have ug:kK x.data.toList.length (.nd 6 0 ⟨#[]⟩ ks xs):=by rw[hl];exact ju
 have hA:=aNb jj lu hd hn ug hO;have gv:=jj.m4 uAv;subst gv;obtain⟨m1,m2⟩:=jj.m6 rfl;have jh:∀W,dG B s bb x W rb u.e n->Calls Tryz.prog 53 #[.pointer (some ⟨rb,0,none⟩),.agg (bN u),.int .i64 ((d:Int)+1)] W (aF4 B s bb x (fun _=>False) W rb (rdV x.data.toList f (d+1) a n)):=fun W hW=>hV W rb (d+1) a n u hW hO hO hn ha hu hf
 have mj:=aM6 (l:=x.data.toList) (f:=f) (d:=d) (a:=a) (n:=n) (seen:=seen) (ks:=[]);cases hr:rdV x.data.toList f (d+1) a n with
 |error q=>
  rw[hr]at mj jh;rw[mj];exact aE1 B s bb x w rb d n u y hR q fun W _ hW=>jh W hW
 |ok r=>
  rw[hr]at mj jh;simp only at mj;have qp:=aT7 hu hr;obtain⟨v1,v2,v3,v4⟩:=(aHb x.data.toList f).1 (d+1) a n r hO hr;have v5:=((aBt x.data.toList f).1 (d+1) a n r hO hr).2.2.2;have F9:fQ (cP r.t):=aOi v1 v2 hO v4 v5 hO;have B4:∀W,w.grownBy W (some rb)->dG B s bb x W rb u.e n->Calls Tryz.prog 53 #[.pointer (some ⟨rb,0,none⟩),.agg (bN u),.int .i64 ((d:Int)+1)] W (fun e w'=>∃yv,e=.returned (.agg (aL yv))/\VAt (fun g=>W.heap.size<=g) w' (cP r.t) yv/\dG B s bb x w' rb r.e r.n/\W.grownBy w' (some rb)):=fun W _ hW=>(jh W hW).mono fun e w' ⟨yv,h1,h2,h3,h4⟩=>⟨yv,h1,h2.weak fun g h=>h.elim False.elim id,h3,h4⟩
  have Dw:∀zs:List Tr,(cP (.nd 6 0 ⟨#[]⟩ [] zs)).xs.length=zs.length:=fun zs=>by
   rw[aQ5];show(oE dW (zs.map cP)).length=_;rw[aQS,aM]
  by_cases hs:dW (cP r.t)∈seen
  ·rw[if_pos hs]at mj
   rw[mj];have D2:=aNa (xs:=xs) (x:=cP r.t) (by rw[<-m1];exact hs);refine aA1 B s bb x w rb d n u y S hR r _ _ j3 ib hA hA B4 F9 D2 hO _ (fun h=>absurd rfl h) ?_;intro _ W E h1 h2;exact⟨E,rfl,by rw[qp];exact h1,h2⟩
  ·rw[if_neg hs]at mj
   obtain⟨q1,q2,q3,q4,_⟩:=jj.part hd mj;obtain⟨r1,r2,_⟩:=xB hO hO ug mj;have hT:=aNb q1 lu hd q3 r1 hO;have D2:=aSs (xs:=xs) (r:=r.t) (by rw[<-m1];exact hs);rw[yE hT]at D2;rw[mj];refine aA1 B s bb x w rb d n u y S hR r _ _ j3 ib hA hT B4 F9 D2 hO _ ?_ ?_
   ·intro _ W ya h1 h2 h3
    exact⟨ya,rfl,h1,h2,h3⟩
   ·intro h
    rw[Dw,Dw,aB]at h;simp at h
theorem aPY (B s:Nat) (bb:Int) (x:ByteArray) (f:Nat) (hF:aB8 B s bb x 170 5 f):aB8 B s bb x 136 5 f:=by
 intro w rb d a n seen ks xs u S y hR jj lu hd hn ib ju j3 ha hu hf;obtain⟨A0,hA0⟩:∃A0,A0=cP (.nd 5 0 ⟨#[]⟩ ks xs):=⟨_,rfl⟩
 have hk:A0.k=5:=by rw[hA0,aQ3];rfl
 rw[<-hA0]at ib;obtain⟨w1,ag⟩:∃w1,((w.alloc (.cells (aL y) 37)).alloc (.cells (bN u) 90)).alloc (.cells #[.int .i64 0,.int .i64 0,.string ⟨#[]⟩,.pointer none] 37)=w1:=⟨_,rfl⟩
 obtain⟨af,ai,aw,bu,al⟩:=dF ag;have eo:=(gZ hR.2.2)
 have HS1:Hid (w1.heap.size=w.heap.size+3):=al;have HRL:Hid (rb<w.heap.size):=eo;have j4:=iH j3;have HR1:=iH (hR.later af);have HB1:=iH af;have HX1:=iH ai;have bl:=iH aw;have kg:=iH bu;have p6:Hid (∀W,w1.grownBy W (some rb)->VAt S W A0 y):=fun W hW=>ib.far (bD (dS af _) hW) j3
 have o7:Hid (∀W,Calls Tryz.prog 32 #[.agg (aL y)] W fun e w'=>e=.returned (.int .i64 5)/\Below W.heap.size W w'):=fun W=>by
  have h:=iQ W y;rw[ib.k,hk]at h;exact h
 have zm:∀W,Below w1.heap.size w1 W->Calls Tryz.prog 170 #[.pointer (some ⟨rb,0,none⟩),.agg (aL y),.agg (bN u),.int .i64 ((d:Int)+1)] W fun e w'=>match iS x.data.toList f 5 d a n seen ks with
  | .ok (r,_,kt)=>∃y,e=.returned (.agg (aL y))/\VAt (fun g=>S g\/W.heap.size<=g) w' (cP (.nd 5 0 ⟨#[]⟩ kt (xs++[r.t]))) y/\dG B s bb x w' rb r.e r.n/\W.grownBy w' (some rb)
  | .error q=>Left W rb q e w':=fun W hW=>hF W rb d a n seen ks xs u S y (HR1.out.later hW) jj lu hd hn (by rw[<-hA0];exact p6.out W (dS hW _)) ju (fun g hg=>⟨bK (j3 g hg).1 (aI af.size hW.size),(j3 g hg).2⟩) ha hu hf
 cases hp:iS x.data.toList f 5 d a n seen ks with
 |error q=>
  rw[hp]at zm;have HF:Hid (∀W,Below w1.heap.size w1 W->Calls Tryz.prog 170 #[.pointer (some ⟨rb,0,none⟩),.agg (aL y),.agg (bN u),.int .i64 ((d:Int)+1)] W fun e w'=>∃E,e=.panicked [brk E]/\fR W.heap.size w' E q.2 (q.1:Int)/\W.grownBy w' (some rb)):=zm;clear zm hp hF hR jj lu hd hn ib ju j3 ha hu hf hk hA0 af ai aw bu al eo;go_enter Tryz.func136,Tryz.ntmps136;go_upto_region 1 with fail
  clear ag;go_wp2_with (first
  |(refine aW rfl 37 _ rfl w.heap.size rfl 37 _ _ _ HX1.out Tryz.underlying37 rfl aF ?_)
  |(go_at_call 32;refine(o7.out _).mono ?_;rintro r w2 ⟨rfl,hb⟩;have j7:=iH hb;have HX2:=iH (kW hb HX1.out);have bo:=iH (kW hb bl.out);have fx:=iH (kW hb kg.out);clear hb)
  |(refine aW rfl 37 _ rfl w.heap.size rfl 37 _ _ _ HX2.out Tryz.underlying37 rfl aF ?_)
  |(refine aW rfl 90 _ rfl (w.heap.size+1) rfl 90 _ _ _ bo.out Tryz.underlying90 rfl bR ?_)
  |(go_at_call 170;(with_reducible refine(HF.out _ j7.out).mono ?_);rintro r w5 ⟨E,rfl,he,hg⟩;have HE:=iH he;have HG:=iH hg;clear he hg))
  exact⟨rfl,E,rfl,HE.out.low (by have:=HS1.out;have:=j7.out.size;omega),bD (dS (tW HB1.out j7.out) _) HG.out⟩
 |ok z=>
  obtain⟨r,s2,kt⟩:=z;rw[hp]at zm;have HF:Hid (∀W,Below w1.heap.size w1 W->Calls Tryz.prog 170 #[.pointer (some ⟨rb,0,none⟩),.agg (aL y),.agg (bN u),.int .i64 ((d:Int)+1)] W fun e w'=>∃y2,e=.returned (.agg (aL y2))/\VAt (fun g=>S g\/W.heap.size<=g) w' (cP (.nd 5 0 ⟨#[]⟩ kt (xs++[r.t]))) y2/\dG B s bb x w' rb r.e r.n/\W.grownBy w' (some rb)):=zm;obtain⟨T2,Cd⟩:∃T2,T2=cP (.nd 5 0 ⟨#[]⟩ kt (xs++[r.t])):=⟨_,rfl⟩
  dsimp only;rw[<-Cd]at HF ⊢;clear zm hp hF hR jj lu hd hn ib ju j3 ha hu hf hk hA0 af ai aw bu al eo Cd;go_enter Tryz.func136,Tryz.ntmps136;go_upto_region 1 with fail
  clear ag;go_wp2_with (first
  |(refine aW rfl 37 _ rfl w.heap.size rfl 37 _ _ _ HX1.out Tryz.underlying37 rfl aF ?_)
  |(go_at_call 32;refine(o7.out _).mono ?_;rintro r w2 ⟨rfl,hb⟩;have j7:=iH hb;have HX2:=iH (kW hb HX1.out);have bo:=iH (kW hb bl.out);have fx:=iH (kW hb kg.out);clear hb)
  |(refine aW rfl 37 _ rfl w.heap.size rfl 37 _ _ _ HX2.out Tryz.underlying37 rfl aF ?_)
  |(refine aW rfl 90 _ rfl (w.heap.size+1) rfl 90 _ _ _ bo.out Tryz.underlying90 rfl bR ?_)
  |(go_at_call 170;(with_reducible refine(HF.out _ j7.out).mono ?_);rintro r' w5 ⟨y2,rfl,hy,dm,hg⟩;have HY:=iH hy;have ft:=iH dm;have HG:=iH hg;have sa:=iH ((hg.block _ (gZ fx.out) (fun e=>by have:=aH e;have:=HRL.out;omega)).trans fx.out);clear hy dm hg)
  |(refine aV rfl 37 _ _ rfl (w.heap.size+2) (aL y2) rfl rfl 37 _ sa.out aF rfl (cE y2) ?_;intro w9 h9 k9))
  refine aN (bE rfl _ _ (w.heap.size+2) 37 _ (0,0) _ rfl h9 Tryz.underlying37 rfl aF) rfl ?_;have al:=HS1.out;have ed:=j7.out.size;exact⟨y2,rfl,HY.out.imp (Kq.only k9 fun h=>by rcases h with h|h<;>first|(have:=(j4.out _ h).1;omega)|omega) fun g h _=>by
   rcases h with h|h
   ·exact .inl h
   ·exact .inr hO,ft.out.only k9 uHu,nE (bD (dS (tW HB1.out j7.out) _) HG.out) k9 hO⟩
theorem aPX (B s:Nat) (bb:Int) (x:ByteArray) (f:Nat) (hF:aB8 B s bb x 171 6 f):aB8 B s bb x 136 6 f:=by
 intro w rb d a n seen ks xs u S y hR jj lu hd hn ib ju j3 ha hu hf;obtain⟨A0,hA0⟩:∃A0,A0=cP (.nd 6 0 ⟨#[]⟩ ks xs):=⟨_,rfl⟩
 have hk:A0.k=6:=by rw[hA0,aQ3];rfl
 rw[<-hA0]at ib;obtain⟨w1,ag⟩:∃w1,((w.alloc (.cells (aL y) 37)).alloc (.cells (bN u) 90)).alloc (.cells #[.int .i64 0,.int .i64 0,.string ⟨#[]⟩,.pointer none] 37)=w1:=⟨_,rfl⟩
 obtain⟨af,ai,aw,bu,al⟩:=dF ag;have eo:=(gZ hR.2.2)
 have HS1:Hid (w1.heap.size=w.heap.size+3):=al;have HRL:Hid (rb<w.heap.size):=eo;have j4:=iH j3;have HR1:=iH (hR.later af);have HB1:=iH af;have HX1:=iH ai;have bl:=iH aw;have kg:=iH bu;have p6:Hid (∀W,w1.grownBy W (some rb)->VAt S W A0 y):=fun W hW=>ib.far (bD (dS af _) hW) j3
 have o7:Hid (∀W,Calls Tryz.prog 32 #[.agg (aL y)] W fun e w'=>e=.returned (.int .i64 6)/\Below W.heap.size W w'):=fun W=>by
  have h:=iQ W y;rw[ib.k,hk]at h;exact h
 have zm:∀W,Below w1.heap.size w1 W->Calls Tryz.prog 171 #[.pointer (some ⟨rb,0,none⟩),.agg (aL y),.agg (bN u),.int .i64 ((d:Int)+1)] W fun e w'=>match iS x.data.toList f 6 d a n seen ks with
  | .ok (r,_,kt)=>∃y,e=.returned (.agg (aL y))/\VAt (fun g=>S g\/W.heap.size<=g) w' (cP (.nd 6 0 ⟨#[]⟩ kt (xs++[r.t]))) y/\dG B s bb x w' rb r.e r.n/\W.grownBy w' (some rb)
  | .error q=>Left W rb q e w':=fun W hW=>hF W rb d a n seen ks xs u S y (HR1.out.later hW) jj lu hd hn (by rw[<-hA0];exact p6.out W (dS hW _)) ju (fun g hg=>⟨bK (j3 g hg).1 (aI af.size hW.size),(j3 g hg).2⟩) ha hu hf
 cases hp:iS x.data.toList f 6 d a n seen ks with
 |error q=>
  rw[hp]at zm;have HF:Hid (∀W,Below w1.heap.size w1 W->Calls Tryz.prog 171 #[.pointer (some ⟨rb,0,none⟩),.agg (aL y),.agg (bN u),.int .i64 ((d:Int)+1)] W fun e w'=>∃E,e=.panicked [brk E]/\fR W.heap.size w' E q.2 (q.1:Int)/\W.grownBy w' (some rb)):=zm;clear zm hp hF hR jj lu hd hn ib ju j3 ha hu hf hk hA0 af ai aw bu al eo;go_enter Tryz.func136,Tryz.ntmps136;go_upto_region 1 with fail
  clear ag;go_wp2_with (first
  |(refine aW rfl 37 _ rfl w.heap.size rfl 37 _ _ _ HX1.out Tryz.underlying37 rfl aF ?_)
  |(go_at_call 32;refine(o7.out _).mono ?_;rintro r w2 ⟨rfl,hb⟩;have j7:=iH hb;have HX2:=iH (kW hb HX1.out);have bo:=iH (kW hb bl.out);have fx:=iH (kW hb kg.out);clear hb)
  |(refine aW rfl 37 _ rfl w.heap.size rfl 37 _ _ _ HX2.out Tryz.underlying37 rfl aF ?_)
  |(refine aW rfl 90 _ rfl (w.heap.size+1) rfl 90 _ _ _ bo.out Tryz.underlying90 rfl bR ?_)
  |(go_at_call 171;(with_reducible refine(HF.out _ j7.out).mono ?_);rintro r w5 ⟨E,rfl,he,hg⟩;have HE:=iH he;have HG:=iH hg;clear he hg))
  exact⟨rfl,E,rfl,HE.out.low (by have:=HS1.out;have:=j7.out.size;omega),bD (dS (tW HB1.out j7.out) _) HG.out⟩
 |ok z=>
  obtain⟨r,s2,kt⟩:=z;rw[hp]at zm;have HF:Hid (∀W,Below w1.heap.size w1 W->Calls Tryz.prog 171 #[.pointer (some ⟨rb,0,none⟩),.agg (aL y),.agg (bN u),.int .i64 ((d:Int)+1)] W fun e w'=>∃y2,e=.returned (.agg (aL y2))/\VAt (fun g=>S g\/W.heap.size<=g) w' (cP (.nd 6 0 ⟨#[]⟩ kt (xs++[r.t]))) y2/\dG B s bb x w' rb r.e r.n/\W.grownBy w' (some rb)):=zm;obtain⟨T2,Cd⟩:∃T2,T2=cP (.nd 6 0 ⟨#[]⟩ kt (xs++[r.t])):=⟨_,rfl⟩
  dsimp only;rw[<-Cd]at HF ⊢;clear zm hp hF hR jj lu hd hn ib ju j3 ha hu hf hk hA0 af ai aw bu al eo Cd;go_enter Tryz.func136,Tryz.ntmps136;go_upto_region 1 with fail
  clear ag;go_wp2_with (first
  |(refine aW rfl 37 _ rfl w.heap.size rfl 37 _ _ _ HX1.out Tryz.underlying37 rfl aF ?_)
  |(go_at_call 32;refine(o7.out _).mono ?_;rintro r w2 ⟨rfl,hb⟩;have j7:=iH hb;have HX2:=iH (kW hb HX1.out);have bo:=iH (kW hb bl.out);have fx:=iH (kW hb kg.out);clear hb)
  |(refine aW rfl 37 _ rfl w.heap.size rfl 37 _ _ _ HX2.out Tryz.underlying37 rfl aF ?_)
  |(refine aW rfl 90 _ rfl (w.heap.size+1) rfl 90 _ _ _ bo.out Tryz.underlying90 rfl bR ?_)
  |(go_at_call 171;(with_reducible refine(HF.out _ j7.out).mono ?_);rintro r' w5 ⟨y2,rfl,hy,dm,hg⟩;have HY:=iH hy;have ft:=iH dm;have HG:=iH hg;have sa:=iH ((hg.block _ (gZ fx.out) (fun e=>by have:=aH e;have:=HRL.out;omega)).trans fx.out);clear hy dm hg)
  |(refine aV rfl 37 _ _ rfl (w.heap.size+2) (aL y2) rfl rfl 37 _ sa.out aF rfl (cE y2) ?_;intro w9 h9 k9))
  refine aN (bE rfl _ _ (w.heap.size+2) 37 _ (0,0) _ rfl h9 Tryz.underlying37 rfl aF) rfl ?_;have al:=HS1.out;have ed:=j7.out.size;exact⟨y2,rfl,HY.out.imp (Kq.only k9 fun h=>by rcases h with h|h<;>first|(have:=(j4.out _ h).1;omega)|omega) fun g h _=>by
   rcases h with h|h
   ·exact .inl h
   ·exact .inr hO,ft.out.only k9 uHu,nE (bD (dS (tW HB1.out j7.out) _) HG.out) k9 hO⟩
theorem aPZ (B s:Nat) (bb:Int) (x:ByteArray) (f:Nat) (hx:x.size<=2000000) (hV:aJW B s bb x f):aB8 B s bb x 136 4 f:=by
 intro w rb d a n seen ks xs u S y hR jj lu hd hn ib ju j3 ha hu hf;have hl:x.data.toList.length=x.size:=cY x;have ug:kK x.data.toList.length (.nd 4 0 ⟨#[]⟩ ks xs):=by rw[hl];exact ju
 have hA:=aNb jj lu hd hn ug hO;have gv:=jj.m4 uAv;subst gv;have Dw:(cP (.nd 4 0 ⟨#[]⟩ [] xs)).xs.length=xs.length:=by rw[aSg];show(xs.map cP).length=_;rw[aM]
 have I0:=aSr xs;obtain⟨A0,hA0⟩:∃A0,A0=cP (.nd 4 0 ⟨#[]⟩ [] xs):=⟨_,rfl⟩
 have hk:A0.k=4:=by rw[hA0,aQ3];rfl
 rw[<-hA0]at ib hA Dw I0;obtain⟨w1,ag⟩:∃w1,((w.alloc (.cells (aL y) 37)).alloc (.cells (bN u) 90)).alloc (.cells #[.int .i64 0,.int .i64 0,.string ⟨#[]⟩,.pointer none] 37)=w1:=⟨_,rfl⟩
 obtain⟨af,ai,aw,bu,al⟩:=dF ag;have eo:=(gZ hR.2.2)
 have HS1:Hid (w1.heap.size=w.heap.size+3):=al;have HRL:Hid (rb<w.heap.size):=eo;have j4:=iH j3;have HR1:=iH (hR.later af);have HB1:=iH af;have HX1:=iH ai;have bl:=iH aw;have kg:=iH bu;have p6:Hid (∀W,w1.grownBy W (some rb)->VAt S W A0 y):=fun W hW=>ib.far (bD (dS af _) hW) j3
 have o7:Hid (∀W,Calls Tryz.prog 32 #[.agg (aL y)] W fun e w'=>e=.returned (.int .i64 4)/\Below W.heap.size W w'):=fun W=>by
  have h:=iQ W y;rw[ib.k,hk]at h;exact h
 have jh:∀W,dG B s bb x W rb u.e n->Calls Tryz.prog 53 #[.pointer (some ⟨rb,0,none⟩),.agg (bN u),.int .i64 ((d:Int)+1)] W (aF4 B s bb x (fun _=>False) W rb (rdV x.data.toList f (d+1) a n)):=fun W hW=>hV W rb (d+1) a n u hW hO hO hn ha hu hf
 have mj:=aM7 (l:=x.data.toList) (f:=f) (d:=d) (a:=a) (n:=n) (seen:=seen) (ks:=[]);have fw:Hid (∀W,w1.grownBy W (some rb)->Calls Tryz.prog 37 #[.agg (aL y)] W fun e w'=>e=.returned (.int .i64 ((xs.length:Nat):Int))/\Below W.heap.size W w'):=fun W hW=>by
  have h:=aFh W A0 y hA (p6.out W hW);rw[Dw]at h;exact h
 cases hr:rdV x.data.toList f (d+1) a n with
 |error q=>
  rw[hr]at mj jh;rw[mj];have j6:Hid (∀V,w1.grownBy V (some rb)->dG B s bb x V rb u.e n->Calls Tryz.prog 53 #[.pointer (some ⟨rb,0,none⟩),.agg (bN u),.int .i64 ((d:Int)+1)] V fun e w'=>∃E,e=.panicked [brk E]/\fR V.heap.size w' E q.2 (q.1:Int)/\V.grownBy w' (some rb)):=fun V _ hV=>jh V hV
  have ze:Hid (∀E W,fR w.heap.size W E q.2 (q.1:Int)->w.grownBy W (some rb)->Left w rb q (.panicked [brk E]) W):=fun E W h1 h2=>⟨E,rfl,h1,h2⟩
  clear hr mj jh hV hR jj lu hd hn ib ju ug j3 ha hu hf hk hA0 af ai aw bu al eo hA I0 hl hx;go_enter Tryz.func136,Tryz.ntmps136;go_upto_region 1 with fail
  clear ag;go_upto_region 3 with(first
    |(refine aW rfl 37 _ rfl w.heap.size rfl 37 _ _ _ HX1.out Tryz.underlying37 rfl aF ?_)
    |(go_at_call 32;refine(o7.out _).mono ?_;rintro r w2 ⟨rfl,hb⟩;have j7:=iH hb;have HX2:=iH (kW hb HX1.out);have bo:=iH (kW hb bl.out);have fx:=iH (kW hb kg.out);clear hb))
  have HG2:Hid (w.grownBy w2 (some rb)):=dS (tW HB1.out j7.out) _;have ar:Hid (∀V,w2.grownBy V (some rb)->V.heap[w.heap.size]? =some (.cells (aL y) 37 (0,0))/\V.heap[w.heap.size+1]? =some (.cells (bN u) 90 (0,0))):=fun V hV=>⟨(hV.block _ (gZ HX2.out) (fun e=>by have:=aH e;have:=HRL.out;omega)).trans HX2.out,(hV.block _ (gZ bo.out) (fun e=>by have:=aH e;have:=HRL.out;omega)).trans bo.out⟩
  have xg:Hid (∀V,w2.grownBy V (some rb)->V.heap[w.heap.size+2]? =some (.cells #[.int .i64 0,.int .i64 0,.string ⟨#[]⟩,.pointer none] 37 (0,0))):=fun V hV=>(hV.block _ (gZ fx.out) (fun e=>by have:=aH e;have:=HRL.out;omega)).trans fx.out
  replace fw:Hid (∀W,w2.grownBy W (some rb)->Calls Tryz.prog 37 #[.agg (aL y)] W fun e w'=>e=.returned (.int .i64 ((xs.length:Nat):Int))/\Below W.heap.size W w'):=fun W hW=>fw.out W (bD (dS j7.out _) hW)
  replace j6:=iH (fun V (hV:w2.grownBy V (some rb))=>j6.out V (bD (dS j7.out _) hV));have ft:=iH ((HR1.out.later j7.out).later (aY w2));have HW:Hid (w2.grownBy w2.drew (some rb)):=dS (aY w2) _;clear o7 HX2 bo HX1 bl kg fx;refine bO (S:=(fun V=>V.heap[w.heap.size]? =some (.cells (aL y) 37 (0,0))/\V.heap[w.heap.size+1]? =some (.cells (bN u) 90 (0,0)))) [10,11] uAu uAw (fun ab=> ?_);refine tyL 0 14 (hy:=aJ uAz 37 _ rfl w.heap.size rfl (aL y) 37 (0,0) _ (fun w hw=>hw.1) Tryz.underlying37 rfl uCu) (h:=?_);refine tyL 1 15 (hy:=aJ uAz 37 _ rfl w.heap.size rfl (aL y) 37 (0,0) _ (fun w hw=>hw.1) Tryz.underlying37 rfl uCu) (h:=?_);(try simp only[pq]);refine tkL 3 17 (h:=?_);refine tyL 4 18 (hy:=aJ uAz 90 _ rfl (w.heap.size+1) rfl (bN u) 90 (0,0) _ (fun w hw=>hw.2) Tryz.underlying90 rfl (by exact bR)) (h:=?_);(try simp only[pq]);refine tkL 5 19 (h:=?_);(try simp only[pq]);refine tkO 2 (some 16) (h:=fun K hK=> ?_);go_simp;go_at_call 37;(with_reducible refine(fw.out _ uBx).mono ?_);rintro r wl ⟨rfl,hb⟩;replace HW:=iH (bD HW.out (dS hb _));replace ft:=iH (ft.out.later hb);clear hb;dsimp only;refine hK.out _ _ uAw (fun ab=> ?_);clear hK K;(try simp only[pq]);refine tkO 6 (some 20) (h:=fun K hK=> ?_);go_simp;go_at_call 53;(with_reducible refine(j6.out _ uBx ft.out).mono ?_);rintro r wv ⟨E,rfl,he,hg⟩;have HE:=iH he;have my:=iH HW.out.size;replace HW:=iH (bD HW.out hg);clear he hg;dsimp only;exact⟨rfl,ze.out _ _ (HE.out.low (by have:=my.out;have:=HS1.out;have:=j7.out.size;omega)) (bD HG2.out HW.out)⟩
 |ok r=>
  rw[hr]at mj jh;obtain⟨v1,v2,v3,v4⟩:=(aHb x.data.toList f).1 (d+1) a n r hO hr;have v5:=((aBt x.data.toList f).1 (d+1) a n r hO hr).2.2.2;have F9:fQ (cP r.t):=aOi v1 v2 hO v4 v5 hO;obtain⟨q1,q2,q3,q4,_⟩:=jj.part hd mj;obtain⟨r1,r2,_⟩:=xB hO hO ug mj;have hT:=aNb q1 lu hd q3 r1 hO;have D2:=I0 r.t;rw[yE hT]at D2;rw[mj];obtain⟨T2,Cd⟩:∃T2,T2=cP (.nd 4 0 ⟨#[]⟩ [] (xs++[r.t])):=⟨_,rfl⟩
  dsimp only;rw[<-Cd]at D2 hT ⊢;have j6:Hid (∀V,w1.grownBy V (some rb)->dG B s bb x V rb u.e n->Calls Tryz.prog 53 #[.pointer (some ⟨rb,0,none⟩),.agg (bN u),.int .i64 ((d:Int)+1)] V fun e w'=>∃yv,e=.returned (.agg (aL yv))/\VAt (fun g=>V.heap.size<=g) w' (cP r.t) yv/\dG B s bb x w' rb r.e r.n/\V.grownBy w' (some rb)):=fun V _ hV=>(jh V hV).mono fun e w' ⟨yv,h1,h2,h3,h4⟩=>⟨yv,h1,h2.weak fun g h=>h.elim False.elim id,h3,h4⟩
  have Co:Hid (∀W yv,w1.grownBy W (some rb)->VAt (fun g=>S g\/w1.heap.size<=g) W (cP r.t) yv->Calls Tryz.prog 169 #[.agg (aL y),.int .i64 ((xs.length:Nat):Int),.agg (aL yv)] W fun e w'=>∃ya,e=.returned (.tuple #[.agg (aL ya),.int .i64 0])/\VAt (fun g=>(S g\/w1.heap.size<=g)\/W.heap.size<=g) w' T2 ya/\Below W.heap.size W w'):=fun W yv hW zc=>by
   have h:=aLv (S:=fun g=>S g\/w1.heap.size<=g) W A0 y hA ((p6.out W hW).weak fun g hg=>.inl hg) ((xs.length:Nat):Int) (cP r.t) yv F9 zc;rw[D2]at h;exact h
  clear hr mj jh hV hR jj lu hd hn ib ju ug j3 ha hu hf hk hA0 af ai aw bu al eo hA I0 hl hx v1 v2 v3 v4 v5 F9 q1 q2 q3 q4 r1 r2 hT D2 Cd;go_enter Tryz.func136,Tryz.ntmps136;go_upto_region 1 with fail
  clear ag;go_upto_region 3 with(first
    |(refine aW rfl 37 _ rfl w.heap.size rfl 37 _ _ _ HX1.out Tryz.underlying37 rfl aF ?_)
    |(go_at_call 32;refine(o7.out _).mono ?_;rintro r w2 ⟨rfl,hb⟩;have j7:=iH hb;have HX2:=iH (kW hb HX1.out);have bo:=iH (kW hb bl.out);have fx:=iH (kW hb kg.out);clear hb))
  have HG2:Hid (w.grownBy w2 (some rb)):=dS (tW HB1.out j7.out) _;have ar:Hid (∀V,w2.grownBy V (some rb)->V.heap[w.heap.size]? =some (.cells (aL y) 37 (0,0))/\V.heap[w.heap.size+1]? =some (.cells (bN u) 90 (0,0))):=fun V hV=>⟨(hV.block _ (gZ HX2.out) (fun e=>by have:=aH e;have:=HRL.out;omega)).trans HX2.out,(hV.block _ (gZ bo.out) (fun e=>by have:=aH e;have:=HRL.out;omega)).trans bo.out⟩
  have xg:Hid (∀V,w2.grownBy V (some rb)->V.heap[w.heap.size+2]? =some (.cells #[.int .i64 0,.int .i64 0,.string ⟨#[]⟩,.pointer none] 37 (0,0))):=fun V hV=>(hV.block _ (gZ fx.out) (fun e=>by have:=aH e;have:=HRL.out;omega)).trans fx.out
  replace fw:Hid (∀W,w2.grownBy W (some rb)->Calls Tryz.prog 37 #[.agg (aL y)] W fun e w'=>e=.returned (.int .i64 ((xs.length:Nat):Int))/\Below W.heap.size W w'):=fun W hW=>fw.out W (bD (dS j7.out _) hW)
  replace j6:=iH (fun V (hV:w2.grownBy V (some rb))=>j6.out V (bD (dS j7.out _) hV));have ft:=iH ((HR1.out.later j7.out).later (aY w2));have HW:Hid (w2.grownBy w2.drew (some rb)):=dS (aY w2) _;clear o7 HX2 bo HX1 bl kg fx;replace Co:=iH (fun W yv (hW:w2.grownBy W (some rb))=>Co.out W yv (bD (dS j7.out _) hW));refine bO (S:=(fun V=>V.heap[w.heap.size]? =some (.cells (aL y) 37 (0,0))/\V.heap[w.heap.size+1]? =some (.cells (bN u) 90 (0,0)))) [10,11] uAu uAw (fun ab=> ?_);refine tyL 0 14 (hy:=aJ uAz 37 _ rfl w.heap.size rfl (aL y) 37 (0,0) _ (fun w hw=>hw.1) Tryz.underlying37 rfl uCu) (h:=?_);refine tyL 1 15 (hy:=aJ uAz 37 _ rfl w.heap.size rfl (aL y) 37 (0,0) _ (fun w hw=>hw.1) Tryz.underlying37 rfl uCu) (h:=?_);(try simp only[pq]);refine tkL 3 17 (h:=?_);refine tyL 4 18 (hy:=aJ uAz 90 _ rfl (w.heap.size+1) rfl (bN u) 90 (0,0) _ (fun w hw=>hw.2) Tryz.underlying90 rfl (by exact bR)) (h:=?_);(try simp only[pq]);refine tkL 5 19 (h:=?_);(try simp only[pq]);refine tkO 2 (some 16) (h:=fun K hK=> ?_);go_simp;go_at_call 37;(with_reducible refine(fw.out _ uBx).mono ?_);rintro r wl ⟨rfl,hb⟩;replace HW:=iH (bD HW.out (dS hb _));replace ft:=iH (ft.out.later hb);clear hb;dsimp only;refine hK.out _ _ uAw (fun ab=> ?_);clear hK K;(try simp only[pq]);refine tkO 6 (some 20) (h:=fun K hK=> ?_);go_simp;go_at_call 53;(with_reducible refine(j6.out _ uBx ft.out).mono ?_);rintro r wv ⟨yv,rfl,zc,dm,hg⟩;have Ao:=iH (zc.weak (S':=fun g=>S g\/w1.heap.size<=g) fun g h=>.inr uOy);have ma:=iH dm;replace HW:=iH (bD HW.out hg);clear zc dm hg;dsimp only;refine hK.out _ _ uAw (fun ab=> ?_);clear hK K;(try simp only[pq])
  refine tkO 7 (some 21) (h:=fun K hK=> ?_);go_simp;go_at_call 169;(with_reducible refine(Co.out _ _ uBx Ao.out).mono ?_);rintro r wa ⟨ya,rfl,Cc,hb⟩;have zd:=iH (Cc.weak (S':=fun g=>S g\/w1.heap.size<=g) fun g h=>by
   rcases h with h|h
   ·exact h
   ·exact .inr uOy)
  replace ma:=iH (ma.out.later hb);replace HW:=iH (bD HW.out (dS hb _));clear Cc hb;dsimp only;refine hK.out _ _ uAw (fun ab=> ?_);clear hK K;(try simp only[pq]);refine tkL 8 13 (h:=?_);refine tkP 10 23 (h:=?_);(try simp only[pq]);refine tkL 9 22 (h:=?_);(try simp only[pq]);refine tkU 11 none (h:=fun K hK=> ?_);refine eC 37 _ _ rfl w.heap.size (aL ya) rfl rfl 37 _ (ar.out _ HW.out).1 aF rfl (cE ya) ?_;intro wS hS kS;refine hK.out _ _ ?_;clear hK K;(try simp only[pq]);refine bJ uAu ?_ _;clear ab;have Ox:w1.heap.size<=wa.heap.size:=by have h1:=j7.out.size;have h2:=HW.out.size;omega
  have Gz:=iH (kS.other (xg.out _ HW.out) hO);have Nr:=iH kS;have Zy:=iH hS;have Ns:=iH (zd.out.kq (Kq.only kS fun h=>by rcases h with h|h<;>first|(have:=(j4.out _ h).1;omega)|(have:=HS1.out;omega)));have Dc:=iH (ma.out.only kS HRL.out);clear hS kS Ox;go_wp2_with (first
   |(refine aW rfl 37 _ rfl w.heap.size rfl 37 _ _ _ Zy.out Tryz.underlying37 rfl aF ?_)
   |(refine aV rfl 37 _ _ rfl (w.heap.size+2) (aL ya) rfl rfl 37 _ Gz.out aF rfl (cE ya) ?_;intro w9 h9 k9))
  refine aN (bE rfl _ _ (w.heap.size+2) 37 _ (0,0) _ rfl h9 Tryz.underlying37 rfl aF) rfl ?_;have al:=HS1.out;exact⟨ya,rfl,Ns.out.imp (Kq.only k9 fun h=>by rcases h with h|h<;>first|(have:=(j4.out _ h).1;omega)|omega) fun g h _=>by
   rcases h with h|h
   ·exact .inl h
   ·exact .inr hO,Dc.out.only k9 uHu,nE (nE (bD HG2.out HW.out) Nr.out (aA _)) k9 hO⟩
end Go.Proofs.YthmfgidbcghnfaaGreatDoor
