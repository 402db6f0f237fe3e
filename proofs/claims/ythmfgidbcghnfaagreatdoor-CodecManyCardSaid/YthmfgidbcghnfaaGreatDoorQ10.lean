import Derived.Test.YthmfgidbcghnfaaGreatDoorQ0
import Derived.Test.YthmfgidbcghnfaaGreatDoorQ8
import Derived.Test.YthmfgidbcghnfaaGreatDoorQ9
set_option maxRecDepth 1000000
set_option maxHeartbeats 8000000
set_option linter.unusedSimpArgs false
namespace Go.Proofs.YthmfgidbcghnfaaGreatDoor
open Go.RowKit
theorem aEk (b:Nat) (hb:b<4294967296) (v:Value) (j:Nat) (hj:j<32) (w:World):
  Calls Tryz.prog 220 #[.agg #[.int .u32 (b:Int),v],.int .i64 (j:Int)] w fun e w'=>e=.returned (.tuple #[.int .i64 (rkN b j:Nat),.int .i64 (rkN b (j+1):Nat)])/\Below w.heap.size w w':=by
 have hB:=aAd j hj;obtain⟨p,hp⟩:∃p,p=2^j:=⟨_,rfl⟩
 rw[<-hp]at hB;have qb:0<p:=by rw[hp];exact nX j
 have T5:p<4294967296:=by rw[hp];exact uT (show 1<2 by decide) hj
 obtain⟨m,hm⟩:∃m,m=p-1:=⟨_,rfl⟩
 have e1:(p:Int)-1=(m:Int):=by omega
 obtain⟨q,hq⟩:∃q,q=m|||p:=⟨_,rfl⟩
 have Pq:m<2^32:=by
  show m<4294967296;omega
 have Ps:p<2^32:=T5;have e2:bits .or .u32 (m:Int) (p:Int)=(q:Int):=by rw[hq];exact(bits_nat .u32 32 uAv (fun n a c=>by rw[aNi];simp only[Int.reducePow]at c;omega) m p Pq Ps).2
 obtain⟨x1,ai⟩:∃x,x=b&&&m:=⟨_,rfl⟩
 obtain⟨x2,fl⟩:∃x,x=b&&&q:=⟨_,rfl⟩
 have e3:bits .and .u32 (b:Int) (m:Int)=(x1:Int):=by rw[ai];exact aGn b m hb
 have e4:bits .and .u32 (b:Int) (q:Int)=(x2:Int):=by rw[fl];exact aGn b q hb
 have l1:x1<4294967296:=by rw[ai];exact lN Nat.and_le_left hb
 have l2:x2<4294967296:=by rw[fl];exact lN Nat.and_le_left hb
 have Jl:q=2^(j+1)-1:=by
  have:=xP (i:=j) (b:=m) hO 1;rw[nL,<-hp,Nat.or_comm,<-hq]at this;rw[<-this,aBG,<-hp];omega
 have r1:rkN x1 32=rkN b j:=by rw[ai,hm,hp];exact aO3 b j hO
 have r2:rkN x2 32=rkN b (j+1):=by rw[fl,Jl];exact aO3 b (j+1) hO
 have c1:=aH1 x1 l1;have c2:=aH1 x2 l2;rw[r1]at c1;rw[r2]at c2;have C1:=iH c1;have C2:=iH c2;have HB:=iH hB;clear c1 c2 hB Jl hp hm hq ai fl r1 r2 Pq Ps;go_enter Tryz.func220,Tryz.ntmps220;go_upto_region 2 with(go_at_call 219;refine(HB.out _).mono ?_;rintro e w1 ⟨rfl,rfl⟩)
 go_quiet (first|(go_at_call 219;exact wR (HB.out _))|(go_at_call_of 260 (Value.int IntKind.u32 (x1:Int));exact Calls.quiet_of (C1.out _))|(go_at_call_of 260 (Value.int IntKind.u32 (x2:Int));exact Calls.quiet_of (C2.out _)))
 go_wp2
 go_ret2;exact⟨rfl,Below.drewMany (Below.newly' _ _) _⟩
def AtR (S:Nat->Prop) (W:World) (R:Rg Pl) (c:Array Value):Prop:=∃v,c=#[.int .u32 (eV R 32:Nat),v]/\dE S W 258 2 v (en oK (oH R)) (gB R 32)
theorem AtR.later {S:Nat->Prop} {W W':World} {R:Rg Pl} {c:Array Value} (h:AtR S W R c) (hb:Below W.heap.size W W'):AtR S W' R c:=by
 obtain⟨v,h1,h2⟩:=h;exact⟨v,h1,h2.later hb⟩
theorem aDj:∀k,eV (noG:Rg Pl) k=0
 |0=>rfl
 |k+1=>by unfold eV;rw[aDj k];rfl
theorem zY:∀k,gB (noG:Rg Pl) k=0
 |0=>rfl
 |k+1=>by unfold gB;rw[zY k];rfl
theorem aKw:oH (noG:Rg Pl)=[]:=aQ (by rw[oG,zY])
theorem AtR.zero (S:Nat->Prop) (W:World):AtR S W noG #[.int .u32 0,.slice none 0 0]:=
 ⟨_,by rw[aDj];rfl,by rw[aKw,zY];exact⟨rfl,.inl ⟨rfl,rfl⟩⟩⟩
theorem AtR.shape {S:Nat->Prop} {W:World} {R:Rg Pl} {c:Array Value} (h:AtR S W R c):∃a n,c=#[.int .u32 (eV R 32:Nat),.slice a (gB R 32) n]:=by
 obtain⟨v,rfl,h2⟩:=h;obtain⟨a,n,rfl,_⟩:=h2.shape;exact⟨a,n,rfl⟩
theorem aB7 (R:Rg Pl) {j:Nat} (hj:j<32) (h:(R j).isSome=true):bits .and .u32 (eV R 32:Nat) ((2^j:Nat):Int)=((2^j:Nat):Int):=
 aBp .and _ _ _ (uT (show 1<2 by decide) hj) fun k hk=>by
  exact Ah1
theorem aGm (R:Rg Pl) {j:Nat} (h:(R j).isSome=false):bits .and .u32 (eV R 32:Nat) ((2^j:Nat):Int)=((0:Nat):Int):=
 aBp .and _ _ _ uAv fun k hk=>by
  exact Ah1
theorem aHl {S:Nat->Prop} {W:World} {v:Value} {xs:List Pl} {n:Nat} (h:dE S W 258 2 v (en oK xs) n) {j:Nat} {x:Pl} (hx:xs[j]? =some x):
  ∃g c,v=.slice (some ⟨g,0,none⟩) n c/\n<=c/\S g/\g<W.heap.size/\j<n/\W.rangeAt g (j*2) (oK x):=by
 have hl:=h.1;rw[lQ pX]at hl;have hj:=(List.getElem?_eq_some_iff.1 hx).1;obtain⟨g,c,aj,fr,h1,h2,h3,h4,h5⟩:=h.pos hO;refine⟨g,c,h1,h2,h3,(gZ h4),by omega,fun k u hu=> ?_⟩;have hk:k<2:=(List.getElem?_eq_some_iff.1 hu).1;exact aG h4 (h5 (j*2+k) u (by rw[zT pX xs j k x hx hk];exact hu))
theorem aOc {S:Nat->Prop} (W:World) (R:Rg Pl) (c:Array Value) (h:AtR S W R c):Calls Tryz.prog 262 #[.agg c] W fun e W'=>e=.returned (.int .i64 (gB R 32:Nat))/\Below W.heap.size W W':=by
 obtain⟨a,n,rfl⟩:=h.shape;clear h;go_enter Tryz.func262,Tryz.ntmps262;go_wp2_with fail
 go_ret;exact⟨rfl,Below.newly' _ _⟩
theorem lA {w w':World} {p q:Array Value} {T U:TypeId} (e:(w.alloc (.cells p T)).alloc (.cells q U)=w'):Below w.heap.size w w'/\w'.heap[w.heap.size]? =some (.cells p T (0,0))/\w'.heap[w.heap.size+1]? =some (.cells q U (0,0))/\w'.heap.size=w.heap.size+2:=by
 subst e;refine⟨Below.more (Below.newly' _ _) _,((Below.newly' _ _).block _ uAy).trans (aC _ _),?_,by simp⟩;have h:=aC (w.alloc (.cells p T)) (.cells q U);simpa using h
theorem aOd {S:Nat->Prop} (W:World) (R:Rg Pl) (c:Array Value) (j:Nat) (hj:j<32) (h:AtR S W R c):Calls Tryz.prog 179 #[.agg c,.int .i64 (j:Int)] W fun e W'=>e=.returned (.tuple #[.agg (plc ((R j).getD (none,none))),.bool (R j).isSome])/\Below W.heap.size W W':=by
  have HB:=iH (aAd j hj);obtain⟨v,rfl,h2⟩:=h;obtain⟨p,hp⟩:∃p,p=2^j:=⟨_,rfl⟩
  obtain⟨w1,ag⟩:∃w1,(W.alloc (.cells #[.int .u32 (eV R 32:Nat),v] 131)).alloc (.cells #[.pointer none,.pointer none] 258)=w1:=⟨_,rfl⟩
  obtain⟨af,ai,aw,al⟩:=lA ag;have Hg:w1.cell? ⟨W.heap.size,0,none⟩=some (.int .u32 (eV R 32:Nat)):=aG ai rfl;have HX1:=iH ai;have bl:=iH aw;have HB1:=iH af;have HS1:=iH al;have hu:=Tryz.underlying131;cases hr:R j with
  |none=>
   have hz:=aGm R (j:=j) (by rw[hr];rfl);rw[<-hp]at HB hz;obtain⟨a,n,rfl,_⟩:=h2.shape;clear h2 hp ai aw af al;go_enter Tryz.func179,Tryz.ntmps179;go_upto_region 1 with fail
   clear ag;go_quiet (first|(go_at_call 219;exact wR (HB.out _)))
   obtain⟨w2,eh⟩:∃w2,w2=w1.drewN nq:=⟨_,rfl⟩
   have HX2:Hid (w2.heap[W.heap.size+1]? =some (.cells #[.pointer none,.pointer none] 258 (0,0))):=by show _=_;rw[eh];exact bl.out
   have aq:Hid (Below W.heap.size W w2):=by show Below _ _ _;rw[eh];exact Below.drewMany HB1.out _
   have HS2:Hid (w2.heap.size=W.heap.size+2):=by show _=_;rw[eh];exact HS1.out
   rw[<-eh];clear eh;go_wp2_with (first
     |(refine aW uAz 258 _ rfl w2.heap.size rfl 258 _ _ _ (aC w2 _) Tryz.underlying258 rfl dN ?_)
     |(refine aV rfl 258 _ _ rfl (W.heap.size+1) #[.pointer none,.pointer none] rfl rfl 258 #[.pointer none,.pointer none] (((Below.newly' w2 _).block _ uBv).trans HX2.out) dN rfl (gW (none,none)) ?_;intro w3 h3 k3))
   exact aN (aR rfl _ _ (W.heap.size+1) 258 _ (0,0) _ rfl h3 Tryz.underlying258 rfl dN) rfl ⟨rfl,(aq.out.trans ((Below.newly' w2 _).mono aq.out.size)).trans (k3.below hO)⟩
  |some x=>
   have hz:=aB7 R hj (by rw[hr];rfl);rw[<-hp]at HB hz
   have FZ:((p:Int)==0)=false:=aE.2 uRw
   have HA:=iH (fun w=>aEk (eV R 32) (aOQ R) v j hj w);rw[yY R j hO,yY R (j+1) hO]at HA;obtain⟨g,cp,rfl,Jm,hS,hg,hlt,Jn⟩:=aHl h2 (aKx R hj hr);have nc:=iH Jn;have HG:=iH hg;have l0:((gB R j:Nat):Int)<(gB R 32:Nat):=by omega
   have Lg:w1.cell? ⟨W.heap.size,1,none⟩=some (.slice (some ⟨g,0,none⟩) (gB R 32) cp):=aG ai rfl;clear h2 hp ai aw af al Jn hg Jm hS;go_enter Tryz.func179,Tryz.ntmps179;go_upto_region 1 with fail
   clear ag;go_quiet (first|(go_at_call 219;exact wR (HB.out _)))
   obtain⟨w2,eh⟩:∃w2,w2=w1.drewN nq:=⟨_,rfl⟩
   have HX2:Hid (w2.heap[W.heap.size]? =some (.cells #[.int .u32 (eV R 32:Nat),.slice (some ⟨g,0,none⟩) (gB R 32) cp] 131 (0,0))):=by show _=_;rw[eh];exact HX1.out
   have bo:Hid (w2.heap[W.heap.size+1]? =some (.cells #[.pointer none,.pointer none] 258 (0,0))):=by show _=_;rw[eh];exact bl.out
   have aq:Hid (Below W.heap.size W w2):=by show Below _ _ _;rw[eh];exact Below.drewMany HB1.out _
   have HS2:Hid (w2.heap.size=W.heap.size+2):=by show _=_;rw[eh];exact HS1.out
   rw[<-eh];clear eh Hg Lg;go_wp2_with (first
     |(refine aW uAz 131 _ rfl W.heap.size rfl 131 _ _ _ HX2.out Tryz.underlying131 rfl iY ?_)
     |(go_at_call 220;refine(HA.out _).mono ?_;rintro e w3 ⟨rfl,hb⟩;have lf:=(hb.block _ uBv).trans HX2.out;have N8:w3.cell? ⟨W.heap.size,1,none⟩=some (.slice (some ⟨g,0,none⟩) (gB R 32) cp):=aG lf rfl;have dp:=iH ((hb.block _ uBv).trans bo.out);have av:=iH (tW aq.out hb);clear hb lf)
     |(refine cO rfl 258 _ rfl g (gB R j*2) rfl (oK x) _ (nJ nc.out av.out) Tryz.underlying258 rfl dN ?_)
     |(refine aV rfl 258 _ _ rfl (W.heap.size+1) (plc x) rfl rfl 258 _ dp.out dN rfl (gW x) ?_;intro w4 h4 k4))
   exact aN (aR rfl _ _ (W.heap.size+1) 258 _ (0,0) _ rfl h4 Tryz.underlying258 rfl dN) rfl ⟨rfl,av.out.trans (k4.below hO)⟩
theorem dE.all {S:Nat->Prop} {W:World} {T:TypeId} {s n:Nat} {v:Value} {cs:List Value} (h:dE S W T s v cs n):dE (fun _=>True) W T s v cs n:=h.weak fun _ _=>trivial
theorem aBU {w w':World} {p q r:Array Value} {T U V:TypeId} (e:((w.alloc (.cells p T)).alloc (.cells q U)).alloc (.cells r V)=w'):
  Below w.heap.size w w'/\w'.heap[w.heap.size]? =some (.cells p T (0,0))/\w'.heap[w.heap.size+1]? =some (.cells q U (0,0))/\w'.heap[w.heap.size+2]? =some (.cells r V (0,0))/\w'.heap.size=w.heap.size+3:=by
 obtain⟨w1,ag⟩:∃w1,(w.alloc (.cells p T)).alloc (.cells q U)=w1:=⟨_,rfl⟩
 obtain⟨h1,h2,h3,h4⟩:=lA ag;rw[ag]at e;subst e;have h:=aC w1 (.cells r V);rw[h4]at h;exact⟨Below.more h1 _,((Below.newly' _ _).block _ hO).trans h2,((Below.newly' _ _).block _ hO).trans h3,h,by simp;omega⟩
theorem aRb {S:Nat->Prop} {W:World} {v:Value} {xs:List Pl} {n:Nat} (h:dE S W 258 2 v (en oK xs) n) (lo hi:Nat) (GA:lo<=n) (GB:hi<=n):
  ∃a1 c1 a3 c3,bY S W 2 (.slice a1 lo c1) (en oK (xs.take lo)) lo/\bY S W 2 (.slice a3 (n-hi) c3) (en oK (xs.drop hi)) (n-hi)/\
  (∀w,(Instr.slice 129 v none (some (.int .i64 (lo:Int))) none).run Tryz.prog w=.ok (.slice a1 lo c1) w)/\(∀w,(Instr.slice 129 v (some (.int .i64 (hi:Int))) none none).run Tryz.prog w=.ok (.slice a3 (n-hi) c3) w):=by
 obtain⟨a1,c1,h1,h2⟩:=aKX (P:=Tryz.prog) 129 aCk aFI h.cut GA;obtain⟨a3,c3,h3,h4⟩:=aD4 (P:=Tryz.prog) 129 aCk aFI h.cut GB;rw[zS pX]at h1;rw[uE pX]at h3;exact⟨a1,c1,a3,c3,h1,h3,h2,h4⟩
theorem aTb {W:World} {g:Nat} {x:Pl} (h:W.heap[g]? =some (.cells (plc x) 258 (0,0))):bY (fun _=>True) W 2 (.slice (some ⟨g,0,none⟩) 1 1) (en oK [x]) 1:=
 ⟨_,1,rfl,aA _,rfl,.inr ⟨g,0,rfl,trivial,(gZ h),fun j u hu=>by
  rw[eA];refine aG h ?_;simpa[en,oK,plc]using hu⟩⟩
theorem aT9 {S:Nat->Prop} (W:World) (R:Rg Pl) (c:Array Value) (j:Nat) (hj:j<32) (x:Pl) (h:AtR S W R c):
    Calls Tryz.prog 182 #[.agg c,.int .i64 (j:Int),.agg (plc x)] W fun e W'=>∃c',e=.returned (.agg c')/\AtR (fun g=>W.heap.size<=g) W' (aH4 R j x) c'/\Below W.heap.size W W':=by
  have HB:=iH (aAd j hj);obtain⟨v,rfl,h2⟩:=h;have hz:=aLO R x j;have hm:=aB7 R hj;obtain⟨b',Bj⟩:∃b',b'=eV (aH4 R j x) 32:=⟨_,rfl⟩
  rw[<-Bj]at hz;obtain⟨p,hp⟩:∃p,p=2^j:=⟨_,rfl⟩
  rw[<-hp]at HB hz hm
  have FZ:((p:Int)==0)=false:=aE.2 uRw
  have HA:=iH (fun w=>aEk (eV R 32) (aOQ R) v j hj w);rw[yY R j hO,yY R (j+1) hO]at HA;have HS:=iH (aOR R x hj);have dr:=aAA R (show j<=j+1 by omega);have xq:=aAA R (show j+1<=32 by omega);have xz:=iH (zZ R 32);have rl:=iH (oG R);obtain⟨a1,c1,a3,c3,al,gi,bu,We⟩:=aRb h2 (gB R j) (gB R (j+1)) hO xq;have HS1:=iH al;have cd:=iH gi;have HJ:=iH (And.intro dr xq);have HP:=iH hp;have GC:=iH Bj;obtain⟨w1,ag⟩:∃w1,((W.alloc (.cells #[.int .u32 (eV R 32:Nat),v] 131)).alloc (.cells (plc x) 258)).alloc (.cells #[.int .u32 0,.slice none 0 0] 131)=w1:=⟨_,rfl⟩
  obtain⟨af,ai,aw,Pt,cq⟩:=aBU ag;have HX1:=iH ai;have kg:=iH Pt;have HB1:=iH af;have nm:=iH cq;have bl:=iH aw;have Hg:w1.cell? ⟨W.heap.size,0,none⟩=some (.int .u32 (eV R 32:Nat)):=aG ai rfl;clear h2 al gi dr xq hp Bj af ai Pt cq hm aw;go_enter Tryz.func182,Tryz.ntmps182;go_upto_region 1 with fail
  clear ag;obtain⟨w2,eh⟩:∃w2,w2=w1:=⟨_,rfl⟩
  have HX2:Hid (w2.heap[W.heap.size]? =some (.cells #[.int .u32 (eV R 32:Nat),v] 131 (0,0))):=by show _=_;rw[eh];exact HX1.out
  have bo:Hid (w2.heap[W.heap.size+1]? =some (.cells (plc x) 258 (0,0))):=by show _=_;rw[eh];exact bl.out
  have fx:Hid (w2.heap[W.heap.size+2]? =some (.cells #[.int .u32 0,.slice none 0 0] 131 (0,0))):=by show _=_;rw[eh];exact kg.out
  have aq:Hid (Below W.heap.size W w2):=by show Below _ _ _;rw[eh];exact HB1.out
  have HS2:Hid (W.heap.size+3<=w2.heap.size):=by show _<=_;rw[eh];exact jU nm.out.symm
  rw[<-eh];clear eh Hg;go_upto_region 4 with(first
    |(go_at_call 219;refine(HB.out _).mono ?_;rintro e MK ⟨rfl,hw⟩;obtain rfl:=hw.symm)
    |(refine aW uAz 131 _ rfl W.heap.size rfl 131 _ _ _ HX2.out Tryz.underlying131 rfl iY ?_)
    |(go_at_call 220;refine(HA.out _).mono ?_;rintro e w3 ⟨rfl,hb⟩;have av:=iH hb;clear hb))
  have ar:Hid (∀V,Below w2.heap.size w2 V->(V.cell? ⟨W.heap.size,0,none⟩=some (.int .u32 (eV R 32:Nat))/\V.cell? ⟨W.heap.size,1,none⟩=some v/\V.heap[W.heap.size+1]? =some (.cells (plc x) 258 (0,0)))):=fun V hV=>by
    have hx:=(hV.block _ uBv).trans HX2.out;exact⟨aG hx rfl,aG hx rfl,(hV.block _ uBv).trans bo.out⟩
  have HW:Hid (Below w2.heap.size w2 w3.drew):=av.out.trans ((aY w3).mono av.out.size);clear av;refine bO (S:=(fun V=>V.cell? ⟨W.heap.size,0,none⟩=some (.int .u32 (eV R 32:Nat))/\V.cell? ⟨W.heap.size,1,none⟩=some v/\V.heap[W.heap.size+1]? =some (.cells (plc x) 258 (0,0)))) [18] uAu uAw (fun ab=> ?_);refine tkA 0 19 (h:=?_);refine tkA 1 20 (h:=?_);(try simp only[pq]);refine tkA 2 21 (h:=?_);(try simp only[pq]);refine qJ (i:=3) (oi:=⟨some 22,_,_,_,_,_⟩) (v:=.int .u32 (p:Int)) rfl uAu uAu uAu uAu (fun _ _ _ h=>h) ⟨by rfl,fun w jy=>⟨219,#[.int .i64 (j:Int)],?hg1_3,HB.out w⟩⟩ uCw ?rg1_3
  case hg1_3=>go_simp
  (try simp only[pq]);refine tkA 4 23 (h:=?_);refine tkA 5 24 (h:=?_);(try simp only[pq]);refine tkA 6 25 (h:=?_);refine tkA 7 26 (h:=?_);(try simp only[pq]);refine tkA 8 27 (h:=?_);refine tyA 9 28 (hy:=aJ uAz 258 _ rfl (W.heap.size+1) rfl (plc x) 258 (0,0) _ (fun w hw=>hw.2.2) Tryz.underlying258 rfl (by exact dN)) (h:=?_);(try simp only[pq]);refine tkA 11 30 (h:=?_);refine tkA 12 31 (h:=?_);(try simp only[pq]);refine tkA 13 32 (h:=?_);refine tkA 14 33 (h:=?_);(try simp only[pq]);refine tkO 10 (some 29) (h:=fun K hK=> ?_);rw[if_pos uAz];refine aIx 129 258 _ rfl (plc x) 2 (.agg #[.pointer none,.pointer none]) rfl rfl uAv uAv Tryz.underlying129 uAu ?_;intro w4 h4 hb Ac;have qf:=iH h4;have ML:=iH Ac;replace HW:=iH (tW HW.out hb);clear h4 hb Ac;refine hK.out _ _ uAw (fun ab=> ?_);clear hK K;(try simp only[pq]);refine tkO 15 (some 34) (h:=fun K hK=> ?_);go_simp;have hb:=Below.newly' w4 (.cells #[.slice a1 (gB R j) c1,.slice (some ⟨w3.drew.heap.size,0,none⟩) 1 1,.slice a3 (gB R 32-gB R (j+1)) c3] 129);have HQ:=iH (aC w4 (.cells #[.slice a1 (gB R j) c1,.slice (some ⟨w3.drew.heap.size,0,none⟩) 1 1,.slice a3 (gB R 32-gB R (j+1)) c3] 129));replace HW:=iH (tW HW.out hb);clear hb;refine hK.out _ _ uAw (fun ab=> ?_);clear hK K;(try simp only[pq]);refine tkO 16 (some 35) (h:=fun K hK=> ?_);go_simp;go_at_call 222;refine(aM3 _ _ [(.slice a1 (gB R j) c1,(oH R).take (gB R j)),(.slice (some ⟨w3.drew.heap.size,0,none⟩) 1 1,[x]),(.slice a3 (gB R 32-gB R (j+1)) c3,(oH R).drop (gB R (j+1)))] (fun k hk=>by
    match k,hk with
    |0,_=>exact aG HQ.out rfl
    |1,_=>exact aG HQ.out rfl
    |2,_=>exact aG HQ.out rfl) (fun q hq=>by
    have AQ:=HJ.out;have j5:=rl.out;simp only[bL,gL,uS]at hq;rcases hq with rfl|rfl|rfl
    ·simp only
     rw[bQ,fT hO];exact(HS1.out.later (tW aq.out HW.out)).weak fun _ _=>trivial
    ·exact aTb (((Below.newly' _ _).block _ (gZ qf.out)).trans qf.out)
    ·simp only
     rw[cG,j5];exact(cd.out.later (tW aq.out HW.out)).weak fun _ _=>trivial) (by
    have AQ:=HJ.out;have j5:=rl.out;have AR:=xz.out;simp[fB];omega) uAy).mono ?_
  rintro e w5 ⟨a5,n5,c5,rfl,Hh,hb⟩;have Jo:=iH Hh;have bp:=iH hb;have oy:=iH HW.out.size;have sa:=iH ((hb.block _ (bK uBv oy.out)).trans ((HW.out.block _ uBv).trans fx.out));replace HW:=iH (tW HW.out hb);clear Hh hb;dsimp only;refine hK.out _ _ uAw (fun ab=> ?_);clear hK K;(try simp only[pq]);refine tkA 17 36 (h:=?_);(try simp only[pq]);refine tkU 18 none (h:=fun K hK=> ?_);refine eC 131 _ _ rfl (W.heap.size+2) #[.int .u32 (b':Int),.slice a5 n5 c5] rfl rfl 131 #[.int .u32 0,.slice none 0 0] sa.out iY rfl uAx ?_;intro w6 h6 k6;refine hK.out _ _ ?_;clear hK K;(try simp only[pq]);refine bJ uAu ?_ _;go_wp2_with fail
  refine aN (bE rfl _ _ (W.heap.size+2) 131 _ (0,0) _ rfl h6 Tryz.underlying131 rfl iY) rfl ⟨_,rfl,⟨_,by rw[GC.out],?_⟩,(tW aq.out HW.out).trans (k6.below hO)⟩;have hl:=Jo.out;simp only[fB,aD,aK,dC,eF,cC,List.flatMap_nil,fE]at hl;rw[<-HS.out,oG]at hl;refine dE.weak (dE.kept hl k6.by_ (fun X e h=> ?_)) (fun g hg=> ?_)
  ·cases e
   exact absurd h (Nat.not_le.2 (bK uBv oy.out))
  ·exact aI (aI aq.out.size oy.out) hg
section
variable {P : Program}
theorem aDI (w:World) (dT sT ty elem:TypeId) (g m s:Nat) (a:Addr) (n D7:Nat) (aj:Array Value) (t:TypeId) (cs:List Value)
  (hu:P.underlying dT=some (.slice elem)) (hs:(P.info? elem).map (·.size)=some s)
  (hg:w.heap[g]? =some (.cells aj t (0,0))) (dx:m<=n) (hn:cs.length=m*s)
  (K9:∀j v,cs[j]? =some v->w.cell? (a.add j)=some v) (u9:aj.size=m*s) (h1:∀v∈cs,v.oneCell'=true):
  (Builtin.copy_ #[dT,sT] ty #[.slice (some ⟨g,0,none⟩) m m,.slice (some a) n D7]).run P w=.ok (goInt m) (w.setRow g cs.toArray):=by
 have hl:=aII (P:=P) w a cs K9;have df:=lZ P g 0 t cs 0 aj w hg hO h1;have Aa:Nat.min n m=m:=Nat.min_eq_right dx;have e:(aj.toList.take 0++cs++aj.toList.drop (0+cs.length)).toArray=cs.toArray:=by
  rw[eF,aT,gM (by rw[bM];omega),fE]
 cases hq:P.info? elem with
 |none=>simp[hq]at hs
 |some i=>
  have hi:i.size=s:=by simpa[hq]using hs
  rw[hn]at hl;simp only[jV,e]at df;simp[Builtin.copy_,jY hu,Builtin.lenOf,Builtin.firstCells,sizeOf,typeInfo,hq,hi,Aa,hl,df]
theorem sE {w:World} {S:Nat->Prop} {ops:Array Oper} {rest:List Oper} {o:Oper} {a:Act} {Q:Exit->Act->World->Prop} (fj:o.guard=none) (d x:Operand) (dT sT:TypeId)
  (ho:o.op=.call {callee:=.builtin .copy,args:=#[d,x],argTypes:=#[dT,sT]}) (elem:TypeId) (hu:P.underlying dT=some (.slice elem)) (s:Nat) (de:(P.info? elem).map (·.size)=some s)
  (g m:Nat) (hd:a.eval d=.slice (some ⟨g,0,none⟩) m m) {v:Value} (hv:a.eval x=v) {cs:List Value} {n:Nat} (hc:bY S w s v cs n) (hm:m<=n) (h0:0<m)
  (T:TypeId) (aj:Array Value) (hg:w.heap[g]? =some (.cells aj T (0,0))) (u9:aj.size=m*s) (h1:∀u∈cs,u.oneCell'=true)
  (h:∀w',w'.heap[g]? =some (.cells (cs.take (m*s)).toArray T (0,0))->iL g w w'->wpList P ops Q rest (a.put o.dst (goInt m)) w'):wpList P ops Q (o::rest) a w:=by
 obtain⟨g',o',c',rfl,h2,h3,h4,h5⟩:=hc.pos hO;have hl:=hc.len;have cr:=aDI (P:=P) w dT sT o.type elem g m s ⟨g',o',none⟩ n c' aj T (cs.take (m*s)) hu de hg hm (by rw[bQ,hl,fT (cS _ hm)])
  (fun j u hu=>by
   rw[rE];refine h5 j u ?_;rw[List.getElem?_take]at hu;split at hu
   ·exact hu
   ·cases hu) u9 (fun u hu=>h1 u (oX hu))
 refine gC fj fun K hK=> ?_
 unfold Oper.wp;simp[execOp,ho,resolve,invoke,builtin,hd,hv,cr,Result.andThen];exact hK _ _ (h _ (lY w g _ _ _ _ hg) (iI _ _ _))
end
def aLc {α:Type} (enc:α->List Value) (S:Nat->Prop) (W:World) (t:TypeId) (s:Nat) (v:Value) (pl:List (Value×List α)):Prop:=
 ∃(a:Option Addr) (g cap:Nat),v=.slice a pl.length cap/\(0<pl.length->a=some ⟨g,0,none⟩)/\(∀k (hk:k<pl.length),W.cell? ⟨g,k,none⟩=some pl[k].1)/\∀p∈pl,dE S W t s p.1 (en enc p.2) p.2.length
theorem aFn:∀w,(sizeOf (Tryz.prog.elem 123)).run Tryz.prog w=.ok 4 w:=fun w=>by
 have e:Tryz.prog.elem 123=37:=by kernel_rfl
 rw[e];obtain⟨i,hi,_,h1,_⟩:=dO vF;simp[sizeOf,typeInfo,hi,h1]
theorem aFr:∀w,(sizeOf (Tryz.prog.elem 122)).run Tryz.prog w=.ok 4 w:=fun w=>by
 have e:Tryz.prog.elem 122=125:=by kernel_rfl
 rw[e];obtain⟨i,hi,_,h1,_⟩:=dO qS;simp[sizeOf,typeInfo,hi,h1]
theorem aNE:Tryz.prog.underlying 123=some (.slice (Tryz.prog.elem 123)):=by kernel_rfl
theorem aNL:Tryz.prog.underlying 122=some (.slice (Tryz.prog.elem 122)):=by kernel_rfl
theorem aM5 {α:Type} {enc:α->List Value} {s:Nat} (cf:∀x,(enc x).length=s) {W:World} {T:TypeId} {g m B:Nat} {xs:List α} (hB:B<=g) (hm:m<=xs.length) (h0:0<m)
  (hg:W.heap[g]? =some (.cells ((en enc xs).take (m*s)).toArray T (0,0))):dE (fun g=>B<=g) W T s (.slice (some ⟨g,0,none⟩) m m) (en enc (xs.take m)) m:=by
 rw[zS cf]at hg;refine⟨by rw[lQ cf,bQ,fT hm],.inr ⟨h0,g,m,_,(0,0),rfl,aA _,hB,hg,fun j u hu=>by simpa using hu⟩⟩
theorem aSZ {α:Type} {enc:α->List Value} (cf:∀x,(enc x).length=4) (bq:∀x,∀u∈enc x,u.oneCell'=true) (w:World) {S:Nat->Prop} (B:Nat) (ls:List (Value×List α))
  (bt:∀k (hk:k<ls.length),w.cell? ⟨B,k,none⟩=some ls[k].1) (ev:∀p∈ls,bY S w 4 p.1 (en enc p.2) p.2.length) (xs:List α) (uk:fB ls ls.length=xs) (hN:xs.length<=100000) (hl:ls.length<=1000):
  Calls Tryz.prog 175 #[.slice (some ⟨B,0,none⟩) ls.length ls.length] w fun e w'=>∃v,e=.returned v/\∃pl,aLc enc (fun g=>w.heap.size<=g) w' 37 4 v pl/\pl.map (·.2)=jC (lJ xs.length) xs/\Below w.heap.size w w':=by
 obtain⟨i,hi,hz,h1,h2⟩:=dO vF;have Dk:=iH (aTR bq w B ls bt ev (by rw[uk];exact hN) hl);rw[uk]at Dk;have HI:=iH (And.intro hi (And.intro hz (And.intro h1 h2)));obtain⟨N,Em⟩:∃N,N=xs.length:=⟨_,rfl⟩
 have HN:=iH hN;rw[<-Em]at hN Dk;have N9:(N:Int)<=100000:=by omega
 have Lh:Hid (((N:Int)+16-1)/16=(lJ N:Nat)):=by show _=_;unfold lJ;omega
 have mu:=iH Em;clear hi hz h1 h2 bt ev uk hN Em;go_enter Tryz.func175,Tryz.ntmps175;go_wp2_with (go_at_call 213;refine Dk.out.mono ?_;rintro e w1 ⟨v1,rfl,dr,af⟩;obtain⟨a1,c1,rfl,_⟩:=dr.shape;have bd:=iH dr;have HB1:=iH af;clear dr af)
 go_loopw [3,4,5] (fun all parts left wr=>∃(c:Nat) (rest:List α) (a:Option Addr) (cp:Nat) (done:List (Value×List α)),left=.int .i64 (c:Int)/\all=.slice a rest.length cp/\Hid ((c=0->rest=[])/\1*c<=rest.length/\rest.length<=N/\done.length+c=lJ N/\done.map (·.2)++jC c rest=jC (lJ N) xs)/\
  Hid (bY (fun g=>g<w1.heap.size) wr 4 (.slice a rest.length cp) (en enc rest) rest.length)/\Hid (bW w1.heap.size 123 1 parts (done.map fun p=> #[p.1]) wr)/\Hid (∀p∈done,dE (fun g=>w1.heap.size<=g) wr 37 4 p.1 (en enc p.2) p.2.length)/\Hid (Below w.heap.size w wr)) (fun _ _ left _=>(intOf left).toNat)
 case atStart=>
  exact Ab6
 case round=>
  have En:Hid (w.heap.size<=w1.heap.size):=HB1.out.size;clear bd Dk HB1;obtain⟨c,rest,a,cp,done,rfl,rfl,HR,HC,HP,HD,HB⟩:=hrel;by_cases h0:c=0
  ·exact Aa4
  ·have hR:=HR.out
   have Eo:((c:Int)>0):=by omega
   have dr:¬((c:Int)=0):=by omega
   obtain⟨c',Bl⟩:∃c',c=c'+1:=⟨c-1,by omega⟩
   obtain⟨m,hm⟩:∃m,m=rest.length/(c'+1):=⟨_,rfl⟩
   rw[Bl]at hR;have Hi:0<m:=by have:=(rA hR.2.1).1;omega
   have Ad:m<=rest.length:=by rw[hm];exact qN _ _
   have qx:(rest.length:Int)/(c:Int)=(m:Int):=by rw[hm,Bl];exact(aNj _ _).symm
   have Pu:(m:Int)<=100000:=by omega
   have ep:((c:Int)-1)=(c':Int):=by omega
   have nf:(c:Int)<=100000:=by omega
   obtain⟨a3,c3,zk,We⟩:=aD4 123 aNE aFn HC.out (lo:=m) Ad;rw[uE cf]at zk;have xz:=iH zk;have HM:=iH (And.intro hm (And.intro Hi Ad));have Cl:=iH hR;have eo:(rest.length:Int)<=100000:=by omega
   have Cm:Hid (w1.heap.size<=wr.heap.size):=HP.out.2.1;have vf:=iH Bl;clear hm Hi Ad hR zk h0 Bl HR;go_wp2_with (first
    |(refine nI _ rfl _ _ 123 rfl 37 i (.agg (aL gO)) 4 Tryz.underlying123 HI.out.1 HI.out.2.1 HI.out.2.2.1 .i64 .i64 m rfl rfl uOv hO ?_)
    |(refine sE rfl _ _ 123 123 rfl 37 Tryz.underlying123 4 aF wr.heap.size m rfl rfl (HC.out.later (Below.newly' _ _)) HM.out.2.2 HM.out.2.1 37 _ (aC _ _) (by simp[oV]) (uD bq _) ?_;intro w4 h4 k4;have qf:=iH h4;have bg:Hid (Below wr.heap.size wr w4):=(Below.newly' _ _).trans (k4.below (aA _));clear h4 k4)
    |(refine sI rfl (z:=.slice none 0 0) (by_:=24) 251 123 _ _ rfl rfl ((HP.out.later bg.out).later (Below.newly' _ _)) w4.heap.size rfl (aC w4 _) rfl uAx Tryz.underlying251 uAu rfl uAv uJv uAv ?_;intro v6 w6 Bm Ep;have lg:=iH Bm;have jl:=iH Ep;clear Bm Ep))
   go_roundw
   case rel=>
    have hm:=HM.out;have hR:=Cl.out;have ag:=Cm.out;have ay:Below wr.heap.size wr (w4.alloc (.cells #[.slice (some ⟨wr.heap.size,0,none⟩) m m] 123)):=Below.more bg.out _;have sb:bW w1.heap.size 123 1 u4 (done.map fun p=> #[p.1]) (w4.alloc (.cells #[.slice (some ⟨wr.heap.size,0,none⟩) m m] 123)):=HP.out.later ay;have td:(rest.drop m).length=rest.length-m:=cG;have df:=(rA hR.2.1).2;rw[<-hm.1]at df;have Pv:(rest.take m).length=m:=by rw[bQ,fT hm.2.2]
    refine⟨c',rest.drop m,a3,c3,done++[(.slice (some ⟨wr.heap.size,0,none⟩) m m,rest.take m)],rfl,by rw[td],⟨fun h=> ?_,by rw[td];exact df,by rw[td];omega,?_,?_⟩,?_,?_,iH (fun p hp=> ?_),?_⟩
    ·refine aQ ?_
     rw[td,hm.1,h];simp
    ·rw[aB,cQ]
     omega
    ·exact Al9
    ·exact Ad9
    ·rw[bZ]
     exact lg.out
    ·have hT:∀X,u4.ownBlock=some X->∃o:Obj,(w4.alloc (.cells #[.slice (some ⟨wr.heap.size,0,none⟩) m m] 123)).heap[X]? =some o/\∀cs fr,o≠.cells cs 37 fr:=fun X e=>by
      obtain⟨cs,fr,h⟩:=sb.typed' X e;exact⟨_,h,fun Jc N4 e=>by cases e⟩
     exact Ae4
    ·exact Ai2
   case measure=>have:=vf.out;simp[intOf];omega
theorem aQU {α:Type} {enc:α->List Value} (cf:∀x,(enc x).length=4) (bq:∀x,∀u∈enc x,u.oneCell'=true) (w:World) {S:Nat->Prop} (B:Nat) (ls:List (Value×List α))
  (bt:∀k (hk:k<ls.length),w.cell? ⟨B,k,none⟩=some ls[k].1) (ev:∀p∈ls,bY S w 4 p.1 (en enc p.2) p.2.length) (xs:List α) (uk:fB ls ls.length=xs) (hN:xs.length<=100000) (hl:ls.length<=1000):
  Calls Tryz.prog 212 #[.slice (some ⟨B,0,none⟩) ls.length ls.length] w fun e w'=>∃v,e=.returned v/\∃pl,aLc enc (fun g=>w.heap.size<=g) w' 125 4 v pl/\pl.map (·.2)=jC (lJ xs.length) xs/\Below w.heap.size w w':=by
 obtain⟨i,hi,hz,h1,h2⟩:=dO qS;have Dk:=iH (aSc bq w B ls bt ev (by rw[uk];exact hN) hl);rw[uk]at Dk;have HI:=iH (And.intro hi (And.intro hz (And.intro h1 h2)));obtain⟨N,Em⟩:∃N,N=xs.length:=⟨_,rfl⟩
 have HN:=iH hN;rw[<-Em]at hN Dk;have N9:(N:Int)<=100000:=by omega
 have Lh:Hid (((N:Int)+16-1)/16=(lJ N:Nat)):=by show _=_;unfold lJ;omega
 have mu:=iH Em;clear hi hz h1 h2 bt ev uk hN Em;go_enter Tryz.func212,Tryz.ntmps212;go_wp2_with (go_at_call 256;refine Dk.out.mono ?_;rintro e w1 ⟨v1,rfl,dr,af⟩;obtain⟨a1,c1,rfl,_⟩:=dr.shape;have bd:=iH dr;have HB1:=iH af;clear dr af)
 go_loopw [3,4,5] (fun all parts left wr=>∃(c:Nat) (rest:List α) (a:Option Addr) (cp:Nat) (done:List (Value×List α)),left=.int .i64 (c:Int)/\all=.slice a rest.length cp/\Hid ((c=0->rest=[])/\1*c<=rest.length/\rest.length<=N/\done.length+c=lJ N/\done.map (·.2)++jC c rest=jC (lJ N) xs)/\
  Hid (bY (fun g=>g<w1.heap.size) wr 4 (.slice a rest.length cp) (en enc rest) rest.length)/\Hid (bW w1.heap.size 122 1 parts (done.map fun p=> #[p.1]) wr)/\Hid (∀p∈done,dE (fun g=>w1.heap.size<=g) wr 125 4 p.1 (en enc p.2) p.2.length)/\Hid (Below w.heap.size w wr)) (fun _ _ left _=>(intOf left).toNat)
 case atStart=>
  exact Ab6
 case round=>
  have En:Hid (w.heap.size<=w1.heap.size):=HB1.out.size;clear bd Dk HB1;obtain⟨c,rest,a,cp,done,rfl,rfl,HR,HC,HP,HD,HB⟩:=hrel;by_cases h0:c=0
  ·exact Aa4
  ·have hR:=HR.out
   have Eo:((c:Int)>0):=by omega
   have dr:¬((c:Int)=0):=by omega
   obtain⟨c',Bl⟩:∃c',c=c'+1:=⟨c-1,by omega⟩
   obtain⟨m,hm⟩:∃m,m=rest.length/(c'+1):=⟨_,rfl⟩
   rw[Bl]at hR;have Hi:0<m:=by have:=(rA hR.2.1).1;omega
   have Ad:m<=rest.length:=by rw[hm];exact qN _ _
   have qx:(rest.length:Int)/(c:Int)=(m:Int):=by rw[hm,Bl];exact(aNj _ _).symm
   have Pu:(m:Int)<=100000:=by omega
   have ep:((c:Int)-1)=(c':Int):=by omega
   have nf:(c:Int)<=100000:=by omega
   obtain⟨a3,c3,zk,We⟩:=aD4 122 aNL aFr HC.out (lo:=m) Ad;rw[uE cf]at zk;have xz:=iH zk;have HM:=iH (And.intro hm (And.intro Hi Ad));have Cl:=iH hR;have eo:(rest.length:Int)<=100000:=by omega
   have Cm:Hid (w1.heap.size<=wr.heap.size):=HP.out.2.1;have vf:=iH Bl;clear hm Hi Ad hR zk h0 Bl HR;go_wp2_with (first
    |(refine nI _ rfl _ _ 122 rfl 125 i (.agg #[.int .i64 0,.int .i64 0,.slice none 0 0,.slice none 0 0]) 4 Tryz.underlying122 HI.out.1 HI.out.2.1 HI.out.2.2.1 .i64 .i64 m rfl rfl uOv hO ?_)
    |(refine sE rfl _ _ 122 122 rfl 125 Tryz.underlying122 4 cV wr.heap.size m rfl rfl (HC.out.later (Below.newly' _ _)) HM.out.2.2 HM.out.2.1 125 _ (aC _ _) (by simp[oV]) (uD bq _) ?_;intro w4 h4 k4;have qf:=iH h4;have bg:Hid (Below wr.heap.size wr w4):=(Below.newly' _ _).trans (k4.below (aA _));clear h4 k4)
    |(refine sI rfl (z:=.slice none 0 0) (by_:=24) 294 122 _ _ rfl rfl ((HP.out.later bg.out).later (Below.newly' _ _)) w4.heap.size rfl (aC w4 _) rfl uAx Tryz.underlying294 uAu rfl uAv uJv uAv ?_;intro v6 w6 Bm Ep;have lg:=iH Bm;have jl:=iH Ep;clear Bm Ep))
   go_roundw
   case rel=>
    have hm:=HM.out;have hR:=Cl.out;have ag:=Cm.out;have ay:Below wr.heap.size wr (w4.alloc (.cells #[.slice (some ⟨wr.heap.size,0,none⟩) m m] 122)):=Below.more bg.out _;have sb:bW w1.heap.size 122 1 u4 (done.map fun p=> #[p.1]) (w4.alloc (.cells #[.slice (some ⟨wr.heap.size,0,none⟩) m m] 122)):=HP.out.later ay;have td:(rest.drop m).length=rest.length-m:=cG;have df:=(rA hR.2.1).2;rw[<-hm.1]at df;have Pv:(rest.take m).length=m:=by rw[bQ,fT hm.2.2]
    refine⟨c',rest.drop m,a3,c3,done++[(.slice (some ⟨wr.heap.size,0,none⟩) m m,rest.take m)],rfl,by rw[td],⟨fun h=> ?_,by rw[td];exact df,by rw[td];omega,?_,?_⟩,?_,?_,iH (fun p hp=> ?_),?_⟩
    ·refine aQ ?_
     rw[td,hm.1,h];simp
    ·rw[aB,cQ]
     omega
    ·exact Al9
    ·exact Ad9
    ·rw[bZ]
     exact lg.out
    ·have hT:∀X,u4.ownBlock=some X->∃o:Obj,(w4.alloc (.cells #[.slice (some ⟨wr.heap.size,0,none⟩) m m] 122)).heap[X]? =some o/\∀cs fr,o≠.cells cs 125 fr:=fun X e=>by
      obtain⟨cs,fr,h⟩:=sb.typed' X e;exact⟨_,h,fun Jc N4 e=>by cases e⟩
     exact Ae4
    ·exact Ai2
   case measure=>have:=vf.out;simp[intOf];omega
end Go.Proofs.YthmfgidbcghnfaaGreatDoor
