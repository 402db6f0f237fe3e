import Derived.Test.YthmfgidbcghnfaaGreatDoorQ0
import Derived.Test.YthmfgidbcghnfaaGreatDoorQ43
import Derived.Test.YthmfgidbcghnfaaGreatDoorQ44
set_option maxRecDepth 1000000
set_option maxHeartbeats 8000000
set_option linter.unusedSimpArgs false
namespace Go.Proofs.YthmfgidbcghnfaaGreatDoor
open Go.RowKit
theorem rdV_e {l:List UInt8} {f d a n:Nat} {t:Tok} (ha:a<=l.length) (hf:2*(l.length-a)+1<=f) (hx:nxR l a=.ok t) {R:Rd} (h:rdV l f d a n=.ok R):t.e<=R.e:=by
 obtain⟨t1,t2,t3⟩:=jP ha hx;obtain⟨f,rfl⟩:∃g,f=g+1:=⟨f-1,by omega⟩
 cases hh:hdS t with
 |none=>rw[aC4 hx hh]at h;cases h
 |some y=>
  by_cases hd:64<d
  ·rw[aC7 hx hh hd]at h;cases h
  ·by_cases hn:16384<n+1
   ·rw[aC5 hx hh hO hn]at h;cases h
   ·obtain⟨k,i,x,p⟩:=y
    cases p with
    |false=>
     rw[aC6 hx hh hO hO]at h;simp only[cM]at h;rw[<-h];exact aA _
    |true=>
     rw[aC3 hx hh hO hO]at h;cases hr:aAQ l f k d t.e (n+1)with
     |error q=>rw[hr]at h;cases h
     |ok r=>
      rw[hr]at h;simp only[cM]at h;rw[<-h];unfold aAQ at hr;cases h1:nxR l t.e with
      |error q=>rw[h1]at hr;cases hr
      |ok u=>
       rw[h1]at hr;obtain⟨u1,u2,u3⟩:=jP t3 h1;simp only at hr;by_cases hs:isS u (kR k)=true
       ·rw[if_pos hs]at hr
        simp only[cM]at hr;rw[<-hr];show t.e<=u.e;omega
       ·rw[if_neg hs]at hr
        have:=(aEi l f).2 k d t.e (n+1) [] [] [] t3 hO;rw[hr]at this;exact eH this.1
theorem aTc {l:List UInt8} {f:Nat} {k:Int} {d a n:Nat} {seen:List (List UInt8)} {ks:List ByteArray} {u:Tok} (ha:a<=l.length) (hf:2*(l.length-a)+1<=f) (hu:nxR l a=.ok u) {r:Rd} {T:List (List UInt8)×List ByteArray} (h:iS l f k d a n seen ks=.ok (r,T)):u.e<=r.e:=by
 obtain⟨t1,t2,t3⟩:=jP ha hu;unfold iS at h;cases h1:rdK l k a seen ks with
 |error q=>rw[h1]at h;cases h
 |ok y=>
  obtain⟨b,s2,k2⟩:=y;rw[h1]at h;simp only at h;cases h2:rdV l f (d+1) b n with
  |error q=>rw[h2]at h;cases h
  |ok R=>
   rw[h2]at h;simp only at h;have LD:R=r:=by
    split at h
    ·cases h
    ·simp only[cM,cZ]at h;exact h.1
   rw[<-LD];by_cases hk:k=5
   ·unfold rdK at h1
    rw[if_pos hk,hu]at h1;simp only at h1;split at h1
    ·cases h1
    ·split at h1
     ·cases h1
     ·cases hc:nxR l u.e with
      |error q=>rw[hc]at h1;cases h1
      |ok c=>
       obtain⟨c1,c2,c3⟩:=jP t3 hc;rw[hc]at h1;simp only at h1;split at h1
       ·simp only[cM,cZ]at h1
        obtain⟨rfl,_⟩:=h1;have:=(aEi l f).1 (d+1) c.e n c3 hO;rw[h2]at this;have h7:=this.1;have h8:=this.2.1;omega
       ·cases h1
   ·unfold rdK at h1
    rw[if_neg hk]at h1;simp only[cM,cZ]at h1;obtain⟨rfl,_⟩:=h1;exact rdV_e ha hf hu h2
def InvP (B s:Nat) (bb:Int) (x:ByteArray) (f:Nat) (w:World) (rb:Nat) (k:Int) (d:Nat) (S:Nat->Prop) (X9 n0:Nat) (Pa:Except (Nat×Int) Rd) (wl:World):Prop:=
 ∃(a n g:Nat) (seen:List (List UInt8)) (ks:List ByteArray) (xs:List Tr) (u:Tok) (y:Cel),dG B s bb x wl rb u.e n/\nxR x.data.toList a=.ok u/\a<=x.size/\2*(x.size-a)+2<=g/\g<=f/\tH k d n seen ks xs/\n<=16384/\kK x.size (.nd k 0 ⟨#[]⟩ ks xs)/\Pa=rdP x.data.toList g k d a n seen ks xs/\
  wl.heap[w.heap.size]? =some (.cells (aL y) 37 (0,0))/\wl.heap[X9]? =some (.cells (bN u) 90 (0,0))/\VAt (fun h=>S h\/X9<h) wl (cP (.nd k 0 ⟨#[]⟩ ks xs)) y/\w.grownBy wl (some rb)/\n0<=wl.heap.size/\wl.heap[w.heap.size+1]? =some (.cells #[.int .i64 0,.int .i64 0,.string ⟨#[]⟩,.pointer none] 37 (0,0))
def atOf (W:World) (rb:Nat):Nat:=match W.cell? ⟨rb,3,none⟩with
 |some (.int _ i)=>i.toNat
 |_=>0
theorem dG.atOf {B s:Nat} {bb:Int} {x:ByteArray} {W:World} {rb a n:Nat} (h:dG B s bb x W rb a n):Go.Proofs.YthmfgidbcghnfaaGreatDoor.atOf W rb=a:=by
 unfold Go.Proofs.YthmfgidbcghnfaaGreatDoor.atOf;rw[show W.cell? ⟨rb,3,none⟩=some (.int .i64 (a:Int))from aG h.2.2 rfl];simp
theorem aPW (B s:Nat) (bb:Int) (x:ByteArray) (f:Nat) (hx:x.size<=2000000) (hF:∀k g,(k=4\/k=5\/k=6)->g<f->aB8 B s bb x 136 k g):aQn B s bb x f:=by
 intro w rb k d a n S y hR hk lu hd tf hn ib j3 ha hf;have hl:x.data.toList.length=x.size:=cY x;obtain⟨w1,ag⟩:∃w1,(w.alloc (.cells (aL y) 37)).alloc (.cells #[.int .i64 0,.int .i64 0,.string ⟨#[]⟩,.pointer none] 37)=w1:=⟨_,rfl⟩
 obtain⟨af,ai,bu,al⟩:=fL ag;have eo:=(gZ hR.2.2)
 have HS1:Hid (w1.heap.size=w.heap.size+2):=al;have HRL:Hid (rb<w.heap.size):=eo;have j4:=iH j3;have HR1:=iH (hR.later af);have HB1:=iH af;have HX1:=iH ai;have kg:=iH bu;have p6:Hid (∀W,w1.grownBy W (some rb)->VAt S W (.nd k 0 ⟨#[]⟩ [] []) y):=fun W hW=>ib.far (bD (dS af _) hW) j3
 have o7:Hid (∀W,Calls Tryz.prog 32 #[.agg (aL y)] W fun e w'=>e=.returned (.int .i64 k)/\Below W.heap.size W w'):=fun W=>by
  have h:=iQ W y;rw[ib.k]at h;exact h
 have Ki:=iH (fun W=>aD9 k hk W);have pf:∀V a n,dG B s bb x V rb a n->a<=x.size->Calls Tryz.prog 54 #[.pointer (some ⟨rb,0,none⟩)] V fun e w'=>match nxR x.data.toList a with
   | .ok t=>e=.returned (.agg (bN t))/\dG B s bb x w' rb t.e n/\V.grownBy w' (some rb)
   | .error q=>Left V rb q e w':=fun V a n hV ha=>aA0 B s bb x V rb a n hV ha hx
 have Dd:=fun V hV=>pf V a n hV ha
 unfold aAQ;cases hu:nxR x.data.toList a with
 |error q=>
  rw[hu]at Dd;have fk:Hid (∀V,dG B s bb x V rb a n->Calls Tryz.prog 54 #[.pointer (some ⟨rb,0,none⟩)] V fun e w'=>∃E,e=.panicked [brk E]/\fR V.heap.size w' E q.2 (q.1:Int)/\V.grownBy w' (some rb)):=Dd;clear pf Dd hF hR lu hd tf hn ib j3 ha hf af ai bu al eo hl hx hu hk;go_enter Tryz.func101,Tryz.ntmps101;go_upto_region 1 with fail
  clear ag;go_wp2_with (first
   |(refine aW rfl 37 _ rfl w.heap.size rfl 37 _ _ _ HX1.out Tryz.underlying37 rfl aF ?_)
    |(go_at_call 32;refine(o7.out _).mono ?_;rintro r w2 ⟨rfl,hb⟩;have aq:=iH hb;clear hb)
    |(go_at_call 118;refine(Ki.out _).mono ?_;rintro r w3 ⟨rfl,rfl⟩)
   |(go_at_call 54;(with_reducible refine(fk.out _ (HR1.out.later aq.out)).mono ?_);rintro r w4 ⟨E,rfl,he,hg⟩;have HE:=iH he;have HG:=iH hg;clear he hg))
  exact⟨rfl,E,rfl,HE.out.low (by have:=HS1.out;have:=aq.out.size;omega),bD (dS (tW HB1.out aq.out) _) HG.out⟩
 |ok u=>
  rw[hu]at Dd;have fk:Hid (∀V,dG B s bb x V rb a n->Calls Tryz.prog 54 #[.pointer (some ⟨rb,0,none⟩)] V fun e w'=>e=.returned (.agg (bN u))/\dG B s bb x w' rb u.e n/\V.grownBy w' (some rb)):=Dd;clear Dd;obtain⟨p1,p2,p3⟩:=jP (l:=x.data.toList) hO hu;by_cases hs:isS u (kR k)=true
  ·simp only
   rw[if_pos hs];have zo:Hid (∀W,Calls Tryz.prog 135 #[.agg (bN u),.string ⟨#[kR k]⟩] W fun e w'=>e=.returned (.bool true)/\Below W.heap.size W w'):=fun W=>by
    have h:=tA u ⟨#[kR k]⟩ W;rw[show(decide (u.k=1)&&u.t==(⟨#[kR k]⟩:ByteArray).data.toList)=true from hs]at h;exact h
   have I1:=aDe hk;clear pf hF hR lu hd tf hn ib j3 ha hf af ai bu al eo hl hx hu hk hs p1 p2 p3;go_enter Tryz.func101,Tryz.ntmps101;go_upto_region 1 with fail
   clear ag;go_wp2_with (first
    |(refine aW rfl 37 _ rfl w.heap.size rfl 37 _ _ _ HX1.out Tryz.underlying37 rfl aF ?_)
     |(go_at_call 32;refine(o7.out _).mono ?_;rintro r w2 ⟨rfl,hb⟩;have aq:=iH hb;clear hb)
     |(go_at_call 118;refine(Ki.out _).mono ?_;rintro r w3 ⟨rfl,rfl⟩)
    |(go_at_call 54;(with_reducible refine(fk.out _ (HR1.out.later aq.out)).mono ?_);rintro r w4 ⟨rfl,dm,hg⟩;have ft:=iH dm;have qf:Hid (w1.grownBy w4 (some rb)):=bD (dS aq.out _) hg;clear dm hg)
     |(refine aV rfl 90 _ _ rfl w4.heap.size (bN u) rfl rfl 90 _ (aC _ _) bR rfl uBw ?_;intro w5 h5 k5;have De:Hid (Below w4.heap.size w4 w5):=(Below.newly' w4 _).trans (k5.below (aA _));have Mp:=iH h5;clear h5 k5)
    |(refine aW rfl 90 _ rfl w4.heap.size rfl 90 _ _ _ Mp.out Tryz.underlying90 rfl bR ?_)
    |(go_at_call 135;(with_reducible refine(zo.out _).mono ?_);rintro r w6 ⟨rfl,hb⟩;have jl:Hid (w1.grownBy w6 (some rb)):=bD qf.out (dS (tW De.out hb) _);have I2:=iH ((ft.out.later De.out).later hb);have HX6:=iH ((jl.out.block _ (gZ HX1.out) (fun e=>by have:=aH e;have:=HRL.out;have:=HS1.out;omega)).trans HX1.out);have C6:=iH ((jl.out.block _ uBu (fun e=>by have:=aH e;have:=HRL.out;omega)).trans kg.out);clear hb)
    |(refine aW rfl 37 _ rfl w.heap.size rfl 37 _ _ _ HX6.out Tryz.underlying37 rfl aF ?_)
    |(refine aV rfl 37 _ _ rfl (w.heap.size+1) (aL y) rfl rfl 37 _ C6.out aF rfl (cE y) ?_;intro w9 h9 k9))
   refine aN (bE rfl _ _ (w.heap.size+1) 37 _ (0,0) _ rfl h9 Tryz.underlying37 rfl aF) rfl ?_;refine⟨y,rfl,?_,I2.out.only k9 uHu,nE (bD (dS HB1.out _) jl.out) k9 hO⟩;show VAt _ _ (cP (.nd k 0 ⟨#[]⟩ [] [])) _;rw[I1];exact(p6.out _ jl.out).imp (Kq.only k9 fun h=>by have:=(j4.out _ h).1;omega) fun g h _=>.inl h
  ·simp only
   rw[if_neg hs];have zo:Hid (∀W,Calls Tryz.prog 135 #[.agg (bN u),.string ⟨#[kR k]⟩] W fun e w'=>e=.returned (.bool false)/\Below W.heap.size W w'):=fun W=>by
    have h:=tA u ⟨#[kR k]⟩ W;rw[show(decide (u.k=1)&&u.t==(⟨#[kR k]⟩:ByteArray).data.toList)=false from oR.2 hs]at h;exact h
   have I1:=aDe hk;obtain⟨Pa,Nt⟩:∃Pa,Pa=rdP x.data.toList f k d a n [] [] []:=⟨_,rfl⟩
   rw[<-Nt];have LF:=iH hF;have Zz:=iH pf;have I3:=iH (And.intro hk (And.intro lu (And.intro hd (And.intro hx (And.intro hl (And.intro hf (And.intro ha (And.intro hn (And.intro tf (And.intro hu (And.intro Nt (And.intro p1 (And.intro p2 (And.intro p3 I1))))))))))))));clear pf hF hR lu hd tf hn ib j3 ha hf af ai bu al eo hl hx hu hk hs Nt p1 p2 p3 I1;go_enter Tryz.func101,Tryz.ntmps101;go_upto_region 1 with fail
   clear ag;go_wp2_with (first
    |(refine aW rfl 37 _ rfl w.heap.size rfl 37 _ _ _ HX1.out Tryz.underlying37 rfl aF ?_)
     |(go_at_call 32;refine(o7.out _).mono ?_;rintro r w2 ⟨rfl,hb⟩;have aq:=iH hb;clear hb)
     |(go_at_call 118;refine(Ki.out _).mono ?_;rintro r w3 ⟨rfl,rfl⟩)
    |(go_at_call 54;(with_reducible refine(fk.out _ (HR1.out.later aq.out)).mono ?_);rintro r w4 ⟨rfl,dm,hg⟩;have ft:=iH dm;have qf:Hid (w1.grownBy w4 (some rb)):=bD (dS aq.out _) hg;clear dm hg)
     |(refine aV rfl 90 _ _ rfl w4.heap.size (bN u) rfl rfl 90 _ (aC _ _) bR rfl uBw ?_;intro w5 h5 k5;have De:Hid (Below w4.heap.size w4 w5):=(Below.newly' w4 _).trans (k5.below (aA _));have Mp:=iH h5;clear h5 k5)
    |(refine aW rfl 90 _ rfl w4.heap.size rfl 90 _ _ _ Mp.out Tryz.underlying90 rfl bR ?_)
    |(go_at_call 135;(with_reducible refine(zo.out _).mono ?_);rintro r w6 ⟨rfl,hb⟩;have jl:Hid (w1.grownBy w6 (some rb)):=bD qf.out (dS (tW De.out hb) _);have I2:=iH ((ft.out.later De.out).later hb);have Df:=iH (kW hb Mp.out);clear hb))
   obtain⟨X9,wh⟩:∃X9,X9=w4.heap.size:=⟨_,rfl⟩
   rw[<-wh]at Df ⊢;have p7:Hid (w1.heap.size<=X9/\X9<w6.heap.size):=⟨by rw[wh];exact qf.out.size,(gZ Df.out)⟩
   have HX6:=iH ((jl.out.block _ (gZ HX1.out) (fun e=>by have:=aH e;have:=HRL.out;have:=HS1.out;omega)).trans HX1.out);have C6:=iH ((jl.out.block _ uBu (fun e=>by have:=aH e;have:=HRL.out;omega)).trans kg.out);clear wh aq qf ft De Mp zo fk HR1 HX1 kg o7 Ki;have Te:Hid (InvP B s bb x f w rb k d S X9 w6.heap.size Pa w6):=⟨a,n,f,[],[],[],u,y,I2.out,I3.out.2.2.2.2.2.2.2.2.2.1,I3.out.2.2.2.2.2.2.1,I3.out.2.2.2.2.2.1,aA _,tH.start I3.out.1 d n I3.out.2.2.2.2.2.2.2.2.1,I3.out.2.2.2.2.2.2.2.1,wW (fun z hz=>by cases hz) (fun z hz=>by cases hz),I3.out.2.2.2.2.2.2.2.2.2.2.1,HX6.out,Df.out,by
    rw[I3.out.2.2.2.2.2.2.2.2.2.2.2.2.2.2];exact(p6.out _ jl.out).weak fun g h=>.inl h,bD (dS HB1.out _) jl.out,aA _,C6.out⟩
   clear I2 HX6 Df p6 jl C6;go_loopw [] (fun wl=>Hid (InvP B s bb x f w rb k d S X9 w6.heap.size Pa wl)) (fun wl=>x.size-atOf wl rb)
   case atStart=>exact Te
   case round=>
    clear Te;obtain⟨a',n',g',seen,ks,xs,u',y',i1,i2,i3,i4,i5,i6,i7,i8,i9,Z0,Z1,Z2,Z3,Z4,Z5⟩:=hrel.out;clear hrel;obtain⟨hk,lu,hd,hx,hl,_⟩:=I3.out;obtain⟨g,rfl⟩:∃g,g'=g+1:=⟨g'-1,by omega⟩
    have Tf:=p7.out;have al:=HS1.out;have we:=HRL.out;have u5:=LF.out k g hk hO wr rb d a' n' seen ks xs u' (fun h=>(S h\/X9<h)/\h<wr.heap.size) y' i1 i6 lu hd i7 Z2.old i8 (fun h hh=>⟨hh.2,fun e=>by
     rcases hh.1 with h1|h1
     ·exact(j4.out _ h1).2 e
     ·omega⟩) i3 i2 hO
    rw[aO6]at i9;have gm:Hid (w6.heap.size<=wr.heap.size):=Z4;have Ei:=iH Z0;have Nu:=iH Z1;have Z6:=iH Z5;have Wl:=iH Z3;have D3:=iH i1;cases hp:iS x.data.toList g k d a' n' seen ks with
    |error q=>
     rw[hp]at u5 i9;have Vs:Hid (Calls Tryz.prog 136 #[.pointer (some ⟨rb,0,none⟩),.agg (aL y'),.agg (bN u'),.int .i64 ((d:Int)+1)] wr fun e w'=>∃E,e=.panicked [brk E]/\fR wr.heap.size w' E q.2 (q.1:Int)/\wr.grownBy w' (some rb)):=u5;have Ce:=iH i9;clear i1 i2 i3 i4 i5 i6 i7 i8 i9 Z0 Z1 Z2 Z3 Z4 Z5 u5 hp hk lu hd hx hl Tf al we;go_wp2_with (first
      |(refine aW rfl 37 _ rfl w.heap.size rfl 37 _ _ _ Ei.out Tryz.underlying37 rfl aF ?_)
      |(refine aW rfl 90 _ rfl X9 rfl 90 _ _ _ Nu.out Tryz.underlying90 rfl bR ?_)
      |(go_at_call 136;(with_reducible refine Vs.out.mono ?_);rintro r w7 ⟨E,rfl,he,hg⟩;have HE:=iH he;have HG:=iH hg;clear he hg))
     rw[Ce.out];exact⟨rfl,E,rfl,HE.out.low (by have h1:=gm.out;have h2:=p7.out;have h3:=HS1.out;omega),bD Wl.out HG.out⟩
    |ok z=>
     obtain⟨r,T⟩:=z;obtain⟨bj,kt⟩:=T;rw[hp]at u5 i9;simp only at i9;obtain⟨q1,q2,q3,q4,_⟩:=i6.part hd hp;have ju:kK x.data.toList.length (.nd k 0 ⟨#[]⟩ ks xs):=by rw[hl];exact i8
     obtain⟨r1,r2,r3,r4⟩:=xB hO hO ju hp;rw[hl]at r1 r4;have Kf:=aTc hO hO i2 hp;obtain⟨EN,EO,LG⟩:=jP (l:=x.data.toList) hO i2;have Vs:Hid (Calls Tryz.prog 136 #[.pointer (some ⟨rb,0,none⟩),.agg (aL y'),.agg (bN u'),.int .i64 ((d:Int)+1)] wr fun e w'=>∃y2,e=.returned (.agg (aL y2))/\VAt (fun h=>((S h\/X9<h)/\h<wr.heap.size)\/wr.heap.size<=h) w' (cP (.nd k 0 ⟨#[]⟩ kt (xs++[r.t]))) y2/\dG B s bb x w' rb r.e r.n/\wr.grownBy w' (some rb)):=u5;have wi:=Zz.out;have Ce:=iH i9;have HQ:=iH (And.intro q1 (And.intro q3 (And.intro r1 (And.intro r3 (And.intro r4 (And.intro Kf (And.intro i5 (And.intro i4 (And.intro hl (And.intro hx (And.intro EO (And.intro EN hk))))))))))));have EM:Hid (atOf wr rb=u'.e):=i1.atOf;clear i1 i2 i3 i4 i5 i6 i7 i8 i9 Z0 Z1 Z2 Z3 Z4 Z5 u5 hp lu hd q1 q2 q3 q4 r1 r2 r3 ju Kf EN EO LG Tf al we hx hk;go_upto_region 6 with(first
      |(refine aW rfl 37 _ rfl w.heap.size rfl 37 _ _ _ Ei.out Tryz.underlying37 rfl aF ?_)
      |(refine aW rfl 90 _ rfl X9 rfl 90 _ _ _ Nu.out Tryz.underlying90 rfl bR ?_)
      |(go_at_call 136;(with_reducible refine Vs.out.mono ?_);rintro r' w7 ⟨y2,rfl,hy,dm,hg⟩;have Ol:=iH hy;have Gs:=iH dm;have EP:=iH hg;have zz:=iH ((hg.block _ (gZ Ei.out) (fun e=>by have:=aH e;have:=HRL.out;omega)).trans Ei.out);have ER:=iH ((hg.block _ (gZ Nu.out) (fun e=>by have:=aH e;have h1:=HS1.out;have h2:=p7.out;have h3:=HRL.out;omega)).trans Nu.out);have ES:=iH ((hg.block _ (gZ Z6.out) (fun e=>by have:=aH e;have:=HRL.out;omega)).trans Z6.out);clear hy dm hg)
      |(refine aV rfl 37 _ _ rfl w.heap.size (aL y2) rfl rfl 37 _ zz.out aF rfl (cE y2) ?_;intro w8 h8 k8;have I4:=iH h8;have Vt:=iH k8;have cj:=iH (k8.other ER.out uDy);have I5:=iH (k8.other ES.out hO);clear h8 k8))
     have l9:=iH (Gs.out.only Vt.out HRL.out);have qo:Hid (w.grownBy w8 (some rb)):=nE (bD Wl.out EP.out) Vt.out (aA _);have EU:Hid (w6.heap.size<=w8.heap.size):=by show _<=_;have h1:=gm.out;have h2:=EP.out.size;have h3:=Vt.out.size;omega
     have K2:Hid (VAt (fun h=>S h\/X9<h) w8 (cP (.nd k 0 ⟨#[]⟩ kt (xs++[r.t]))) y2):=Ol.out.imp (Kq.only Vt.out fun h=>by
      have h1:=p7.out;have h2:=HS1.out;have h4:=gm.out;rcases h with h|h
      ·rcases h.1 with h3|h3
       ·have:=(j4.out _ h3).1;omega
       ·omega
      ·omega) fun h hh _=>by
      rcases hh with h1|h1
      ·exact h1.1
      ·exact .inr (by have h2:=p7.out;have h3:=gm.out;omega)
     clear zz ER ES Ei Nu Z6 Vs Gs Ol;cases h2:nxR x.data.toList r.e with
     |error q=>
      have h9:=Ce.out;rw[h2]at h9;replace Ce:=iH h9;have fk:Hid (∀V,dG B s bb x V rb r.e (r.n)->Calls Tryz.prog 54 #[.pointer (some ⟨rb,0,none⟩)] V fun e w'=>∃E,e=.panicked [brk E]/\fR V.heap.size w' E q.2 (q.1:Int)/\V.grownBy w' (some rb)):=fun V hV=>by
       have h:=wi V r.e r.n hV r4;rw[h2]at h;exact h
      clear wi h2 h9 r4 hl;go_wp2_with (go_at_call 54;(with_reducible refine(fk.out _ l9.out).mono ?_);rintro r' w9 ⟨E,rfl,he,hg⟩;have HE:=iH he;have HG:=iH hg;clear he hg)
      rw[Ce.out];exact⟨rfl,E,rfl,HE.out.low (by have h1:=EU.out;have h2:=p7.out;have h3:=HS1.out;omega),bD qo.out HG.out⟩
     |ok u2=>
      have h9:=Ce.out;rw[h2]at h9;simp only at h9;have fk:Hid (∀V,dG B s bb x V rb r.e (r.n)->Calls Tryz.prog 54 #[.pointer (some ⟨rb,0,none⟩)] V fun e w'=>e=.returned (.agg (bN u2))/\dG B s bb x w' rb u2.e (r.n)/\V.grownBy w' (some rb)):=fun V hV=>by
       have h:=wi V r.e r.n hV r4;rw[h2]at h;exact h
      obtain⟨p1,p2,p3⟩:=jP (l:=x.data.toList) hO h2;have uy:=iH (And.intro p1 (And.intro p2 (And.intro p3 r4)));clear h2 r4 p1 p2;go_upto_region 7 with(first
       |(go_at_call 54;(with_reducible refine(fk.out _ l9.out).mono ?_);rintro r' w9 ⟨rfl,dm,hg⟩;have Dc:=iH dm;have Io:=iH hg;have rv:=iH ((hg.block _ (gZ I4.out) (fun e=>by have:=aH e;have:=HRL.out;omega)).trans I4.out);have Tg:=iH ((hg.block _ (gZ cj.out) (fun e=>by have:=aH e;have h1:=HS1.out;have h2:=p7.out;have h3:=HRL.out;omega)).trans cj.out);have Gz:=iH ((hg.block _ (gZ I5.out) (fun e=>by have:=aH e;have:=HRL.out;omega)).trans I5.out);clear dm hg)
       |(refine aV rfl 90 _ _ rfl X9 (bN u2) rfl rfl 90 _ Tg.out bR rfl uBw ?_;intro wA hA kA;have Ga:=iH hA;have dh:=iH kA;have Gv:=iH (kA.other rv.out uDy);have EV:=iH (kA.other Gz.out uDy);clear hA kA))
      have EW:=iH (Dc.out.only dh.out uMw);have Z7:Hid (w.grownBy wA (some rb)):=nE (bD qo.out Io.out) dh.out uDy;have Kz:Hid (w6.heap.size<=wA.heap.size):=by show _<=_;have h1:=EU.out;have h2:=Io.out.size;have h3:=dh.out.size;omega
      have zd:Hid (VAt (fun h=>S h\/X9<h) wA (cP (.nd k 0 ⟨#[]⟩ kt (xs++[r.t]))) y2):=(K2.out.kq (Kq.grown Io.out fun X e hX=>by
       have:=aH e;have h1:=p7.out;have h2:=HS1.out;have h3:=HRL.out;rcases hX with h|h
       ·exact(j4.out _ h).2 this.symm
       ·omega)).kq (Kq.only dh.out fun h=>by
       have h1:=p7.out;have h2:=HS1.out;rcases h with h|h
       ·have:=(j4.out _ h).1;omega
       ·omega)
      clear I4 cj I5 rv Tg Gz fk Dc l9 K2;have hsg:=fun c W=>tA u2 ⟨#[c]⟩ W
      by_cases ed:isS u2 (kR k)=true
      ·have Th:¬isS u2 44=true:=fun h=>by
        unfold isS at h ed;simp only[eQ,eI,eK]at h ed;have:=ed.2.symm.trans h.2;rcases HQ.out.2.2.2.2.2.2.2.2.2.2.2.2 with rfl|rfl|rfl<;>exact absurd this uAv
       rw[if_neg Th,if_pos ed]at h9;replace Ce:=iH h9;have zo:Hid (∀W,Calls Tryz.prog 135 #[.agg (bN u2),.string ⟨#[kR k]⟩] W fun e w'=>e=.returned (.bool true)/\Below W.heap.size W w'):=fun W=>by
        have h:=hsg (kR k) W;rw[show(decide (u2.k=1)&&u2.t==(⟨#[kR k]⟩:ByteArray).data.toList)=true from ed]at h;exact h
       clear wi h9 hsg ed Th hl p3;go_wp2_with (first
        |(refine aW rfl 90 _ rfl X9 rfl 90 _ _ _ Ga.out Tryz.underlying90 rfl bR ?_)
        |(go_at_call 135;(with_reducible refine(zo.out _).mono ?_);rintro r' wB ⟨rfl,hb⟩;have j8:=iH hb;have G7:=iH (kW hb Gv.out);have fs:=iH (kW hb EV.out);clear hb)
        |(refine aW rfl 37 _ rfl w.heap.size rfl 37 _ _ _ G7.out Tryz.underlying37 rfl aF ?_)
        |(refine aV rfl 37 _ _ rfl (w.heap.size+1) (aL y2) rfl rfl 37 _ fs.out aF rfl (cE y2) ?_;intro wC hC kC))
       rw[Ce.out];refine aN (bE rfl _ _ (w.heap.size+1) 37 _ (0,0) _ rfl hC Tryz.underlying37 rfl aF) rfl ?_;have h1:=p7.out;have h2:=HS1.out;exact⟨y2,rfl,(zd.out.later j8.out).imp (Kq.only kC fun h=>by
        rcases h with h|h
        ·have:=(j4.out _ h).1;omega
        ·omega) fun h hh _=>by
        rcases hh with h3|h3
        ·exact .inl h3
        ·exact .inr hO,(EW.out.later j8.out).only kC uHu,nE (bD Z7.out (dS j8.out _)) kC hO⟩
      ·have zo:Hid (∀W,Calls Tryz.prog 135 #[.agg (bN u2),.string ⟨#[kR k]⟩] W fun e w'=>e=.returned (.bool false)/\Below W.heap.size W w'):=fun W=>by
        have h:=hsg (kR k) W;rw[show(decide (u2.k=1)&&u2.t==(⟨#[kR k]⟩:ByteArray).data.toList)=false from oR.2 ed]at h;exact h
       clear hsg;go_upto_region 9 with(first
        |(refine aW rfl 90 _ rfl X9 rfl 90 _ _ _ Ga.out Tryz.underlying90 rfl bR ?_)
        |(go_at_call 135;(with_reducible refine(zo.out _).mono ?_);rintro r' wB ⟨rfl,hb⟩;have j8:=iH hb;have G7:=iH (kW hb Gv.out);have fs:=iH (kW hb EV.out);have ue:=iH (kW hb Ga.out);clear hb))
       cases h44:isS u2 44 with
       |false=>
        rw[if_neg (by rw[h44];decide),if_neg ed]at h9;replace Ce:=iH h9;have Iz:=iH (fun W=>aB5 u2 44 W h44 (by have h1:=uy.out;have h2:=HQ.out.2.2.2.2.2.2.2.2.2.1;omega));clear wi h9 h44 ed hl p3;go_wp2_with (first
         |(refine aW rfl 90 _ rfl X9 rfl 90 _ _ _ ue.out Tryz.underlying90 rfl bR ?_)
         |(go_at_call 137;(with_reducible refine(Iz.out _).mono ?_);rintro r' wC ⟨E,rfl,he,hb⟩;have HE:=iH he;have Db:=iH hb;clear he hb))
        rw[Ce.out];exact⟨rfl,E,rfl,HE.out.low (by have h1:=Kz.out;have h2:=p7.out;have h3:=HS1.out;have h4:=j8.out.size;omega),bD Z7.out (dS (tW j8.out Db.out) _)⟩
       |true=>
        rw[if_pos h44]at h9;have Iz:=iH (fun W=>aDa u2 44 W h44);have ry:=iH (EW.out.later j8.out);have S5:Hid (w.grownBy wB (some rb)):=bD Z7.out (dS j8.out _);have B3:=iH (zd.out.later j8.out);have Oj:Hid (w6.heap.size<=wB.heap.size):=aI Kz.out j8.out.size;have T5:=uy.out;have EX:=HQ.out;cases h3:nxR x.data.toList u2.e with
        |error q=>
         rw[aT8 hO h3]at h9;replace Ce:=iH h9;have fk:Hid (∀V,dG B s bb x V rb u2.e (r.n)->Calls Tryz.prog 54 #[.pointer (some ⟨rb,0,none⟩)] V fun e w'=>∃E,e=.panicked [brk E]/\fR V.heap.size w' E q.2 (q.1:Int)/\V.grownBy w' (some rb)):=fun V hV=>by
          have h:=wi V u2.e r.n hV hO;rw[h3]at h;exact h
         clear wi h9 h44 ed h3 hl p3 T5 EX;go_wp2_with (first
          |(refine aW rfl 90 _ rfl X9 rfl 90 _ _ _ ue.out Tryz.underlying90 rfl bR ?_)
          |(go_at_call 137;(with_reducible refine(Iz.out _).mono ?_);rintro r' wC ⟨rfl,hb⟩;have Db:=iH hb;have Nk:=iH (ry.out.later hb);clear hb)
          |(go_at_call 54;(with_reducible refine(fk.out _ Nk.out).mono ?_);rintro r' wD ⟨E,rfl,he,hg⟩;have HE:=iH he;have HG:=iH hg;clear he hg))
         rw[Ce.out];exact⟨rfl,E,rfl,HE.out.low (by have h1:=Oj.out;have h2:=p7.out;have h3:=HS1.out;have h4:=Db.out.size;omega),bD (bD S5.out (dS Db.out _)) HG.out⟩
        |ok u3=>
         have fk:Hid (∀V,dG B s bb x V rb u2.e (r.n)->Calls Tryz.prog 54 #[.pointer (some ⟨rb,0,none⟩)] V fun e w'=>e=.returned (.agg (bN u3))/\dG B s bb x w' rb u3.e (r.n)/\V.grownBy w' (some rb)):=fun V hV=>by
          have h:=wi V u2.e r.n hV hO;rw[h3]at h;exact h
         obtain⟨e1,e2,e3⟩:=jP (l:=x.data.toList) p3 h3;have LH:=iH h3;replace Ce:=iH h9;have yd:Hid (u2.e<=x.size/\2*(x.size-u2.e)+2<=g/\u'.e<u3.e/\u3.e<=x.size):=by show _/\_;omega
         clear wi h9 h44 ed h3 hl p3 T5 EX e1 e2 e3;go_wp2_with (first
          |(refine aW rfl 90 _ rfl X9 rfl 90 _ _ _ ue.out Tryz.underlying90 rfl bR ?_)
          |(go_at_call 137;(with_reducible refine(Iz.out _).mono ?_);rintro r' wC ⟨rfl,hb⟩;have Db:=iH hb;have Nk:=iH (ry.out.later hb);have Kv:=iH (kW hb G7.out);have O6:=iH (kW hb fs.out);have jw:=iH (kW hb ue.out);clear hb)
          |(go_at_call 54;(with_reducible refine(fk.out _ Nk.out).mono ?_);rintro r' wD ⟨rfl,dm,hg⟩;have ft:=iH dm;have Z8:=iH hg;have LI:=iH ((hg.block _ (gZ Kv.out) (fun e=>by have:=aH e;have:=HRL.out;omega)).trans Kv.out);have LJ:=iH ((hg.block _ (gZ jw.out) (fun e=>by have:=aH e;have h1:=HS1.out;have h2:=p7.out;have h3:=HRL.out;omega)).trans jw.out);have LL:=iH ((hg.block _ (gZ O6.out) (fun e=>by have:=aH e;have:=HRL.out;omega)).trans O6.out);clear dm hg)
          |(refine aV rfl 90 _ _ rfl X9 (bN u3) rfl rfl 90 _ LJ.out bR rfl uBw ?_;intro wE hE kE;have Zc:=iH hE;have rn:=iH kE;have LM:=iH (kE.other LI.out uDy);have Kl:=iH (kE.other LL.out uDy);clear hE kE))
         have Um:=iH (ft.out.only rn.out uMw);go_roundw
         case rel=>
          have h1:=p7.out;have h2:=HS1.out;have h3:=HRL.out;have h4:=yd.out;have h5:=HQ.out;refine⟨_,_,_,_,_,_,_,_,_,_,_,_,_,_,_,⟨u2.e,r.n,g,bj,kt,xs++[r.t],u3,y2,Um.out,LH.out,h4.1,h4.2.1,by omega,h5.1,h5.2.1,h5.2.2.1,Ce.out,LM.out,Zc.out,?_,nE (bD (bD S5.out (dS Db.out _)) Z8.out) rn.out hO,?_,Kl.out⟩,rfl⟩
          ·exact(((B3.out.later Db.out).kq (Kq.grown Z8.out fun X e hX=>by
            have:=aH e;rcases hX with h|h
            ·exact(j4.out _ h).2 this.symm
            ·omega)).kq (Kq.only rn.out fun h=>by
            rcases h with h|h
            ·have:=(j4.out _ h).1;omega
            ·omega))
          ·have h6:=Oj.out
           have h7:=Db.out.size;have h8:=Z8.out.size;have h9:=rn.out.size;omega
         case measure=>
          rw[Um.out.atOf,EM.out];have h4:=yd.out;omega
end Go.Proofs.YthmfgidbcghnfaaGreatDoor
