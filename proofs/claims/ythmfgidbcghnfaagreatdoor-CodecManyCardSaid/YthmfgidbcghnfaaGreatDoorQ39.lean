import Derived.Test.YthmfgidbcghnfaaGreatDoorQ0
import Derived.Test.YthmfgidbcghnfaaGreatDoorQ36
import Derived.Test.YthmfgidbcghnfaaGreatDoorQ38
set_option maxRecDepth 1000000
set_option maxHeartbeats 8000000
set_option linter.unusedSimpArgs false
namespace Go.Proofs.YthmfgidbcghnfaaGreatDoor
open Go.RowKit
abbrev rdC (s:Nat) (bb:Int) (x:ByteArray) (a n:Int):Array Value:=#[.int .u64 (s:Int),.int .i64 bb,.string x,.int .i64 a,.int .i64 n]
theorem fR.after {S:Nat} {W W':World} {E:Value} {c n:Int} (h:fR S W E c n) (hb:Below W.heap.size W W'):fR S W' E c n:=h.later hb
theorem uG:(Tryz.prog.info? 3).map (·.size)=some 1:=by kernel_rfl
theorem aIr (R:Ending->World->Prop) (x:ByteArray) (rb s:Nat) (bb a n:Int) (tk:Int) (ta te:Nat) (tn:Int) (tt:List UInt8) (qn:Nat) (qe:Int) (w:World) (hr:w.heap[rb]? =some (.cells (rdC s bb x a n) 103 (0,0)))
  (mo:ta<=2000000) (pf:∀W,Below w.heap.size w W->Calls Tryz.prog 49 #[.string x,.int .i64 a] W fun e w'=>∃E,e=.returned (.tuple #[aFq ⟨tk,ta,te,tn,tt⟩,E])/\fR W.heap.size w' E qe (qn:Nat)/\Below W.heap.size W w')
  (hA:qe≠0->∀E W,fR w.heap.size W E qe (qn:Nat)->w.grownBy W (some rb)->R (.panicked [brk E]) W)
  (hB:qe=0->tk=0->∀E W,fR w.heap.size W E 10 (ta:Int)->w.grownBy W (some rb)->R (.panicked [brk E]) W)
  (hC:qe=0->tk≠0->∀W,W.heap[rb]? =some (.cells (rdC s bb x te n) 103 (0,0))->w.grownBy W (some rb)->R (.returned (.agg (bN ⟨tk,ta,te,tn,tt⟩))) W):
  Calls Tryz.prog 54 #[.pointer (some ⟨rb,0,none⟩)] w R:=by
 obtain⟨w1,ag⟩:∃w1,w.alloc (.cells (bN ⟨0,0,0,0,[]⟩) 90)=w1:=⟨_,rfl⟩
 obtain⟨af,jg,al⟩:=fH ag;have eo:=(gZ hr)
 have bu:=(af.block _ eo).trans hr;have ar:Hid (∀V,Below w1.heap.size w1 V->V.cell? ⟨rb,2,none⟩=some (.string x)/\V.cell? ⟨rb,3,none⟩=some (.int .i64 a)):=fun V hV=>⟨aG (kW hV bu) rfl,aG (kW hV bu) rfl⟩
 have fk:Hid (∀W,Below w1.heap.size w1 W->Calls Tryz.prog 49 #[.string x,.int .i64 a] W fun e w'=>∃E,e=.returned (.tuple #[.agg (bN ⟨tk,ta,te,tn,tt⟩),E])/\fR W.heap.size w' E qe (qn:Nat)/\Below W.heap.size W w'):=fun W hW=>pf W (tW af hW)
 have mb:=iH (fun W=>pY 10 ta W uAv mo);have HA:=iH hA;have HB:=iH hB;have HC:=iH hC;have HS1:Hid (w.heap.size<=w1.heap.size):=af.size;have HRL:Hid (rb<w.heap.size):=eo;have HR1:=iH bu;have kg:=iH jg;have HB1:=iH af;have nm:Hid (w1.heap.size=w.heap.size+1):=al;have HW:Hid (Below w1.heap.size w1 w1.drew):=aY w1;clear hA hB hC hr mo pf af jg al eo bu;go_enter Tryz.func54,Tryz.ntmps54;go_upto_region 1 with fail
 rw[show w.alloc (.cells #[.int .i64 0,.int .i64 0,.int .i64 0,.int .i64 0,.string ⟨#[]⟩] 90)=w1 from ag];clear ag;apply tl3 (Q:=fun(Z:Nat) (wS:World) (E:Value)=>wS.heap[Z]? =some (.cells (bN ⟨tk,ta,te,tn,tt⟩) 90 (0,0))/\fR w.heap.size wS E qe (qn:Nat)/\Below w1.heap.size w1 wS/\w1.heap.size<=Z)
 ·intro pz
  refine bO (S:=(fun V=>V.cell? ⟨rb,2,none⟩=some (.string x)/\V.cell? ⟨rb,3,none⟩=some (.int .i64 a))) [11,13,14] uAu uAw (fun ab=> ?_);obtain⟨wd,j9⟩:∃wd,wd=w1.drew:=⟨_,rfl⟩
  rw[<-j9]at HW ab ⊢;clear j9;refine tkL 0 6 (h:=?_);refine tkL 1 7 (h:=?_);(try simp only[pq]);refine tkL 2 8 (h:=?_);refine tkL 3 9 (h:=?_);(try simp only[pq]);refine tkL 4 10 (h:=?_);refine tkL 5 11 (h:=?_);(try simp only[pq]);refine tkL 6 12 (h:=?_);refine tkL 7 13 (h:=?_);(try simp only[pq]);refine fU (rs:=[8,12]) uAu uAy (jJ.cons (o:=⟨some 14,_,_,_,_,_⟩) rfl (fun K hK=> ?_) (jJ.cons (o:=⟨some 3,_,_,_,_,_⟩) rfl (fun K hK=> ?_) jJ.nil))
  ·go_simp
   go_at_call 49;(with_reducible refine(fk.out _ uBx).mono ?_);rintro r wc ⟨E,rfl,he,hb⟩;have HE:=iH he;have A7:=iH hb;have my:=iH HW.out.size;replace HW:=iH (tW HW.out hb);clear he hb;dsimp only;refine hK.out _ _ uAw (fun ab=> ?_);clear hK K;(try simp only[pq]);refine tkL 9 5 (h:=?_);refine tkP 11 16 (h:=?_);(try simp only[pq]);refine tkL 10 15 (h:=?_);(try simp only[pq]);refine tkO 12 (some 3) (h:=fun K hK=> ?_);go_simp;have fs:Hid ((wc.alloc (.cells #[.int .i64 0,.int .i64 0,.int .i64 0,.int .i64 0,.string ⟨#[]⟩] 90)).heap[wc.heap.size]? =some (.cells #[.int .i64 0,.int .i64 0,.int .i64 0,.int .i64 0,.string ⟨#[]⟩] 90 (0,0))):=aC _ _;have gz:Hid (w1.heap.size<=wc.heap.size):=HW.out.size;have C7:=iH (Below.newly' wc (.cells #[.int .i64 0,.int .i64 0,.int .i64 0,.int .i64 0,.string ⟨#[]⟩] 90));replace HW:=iH (tW HW.out C7.out);obtain⟨Z,hZ⟩:∃Z,Z=wc.heap.size:=⟨_,rfl⟩
   have Kl:Hid (Z=wc.heap.size):=hZ;obtain⟨wz,ja⟩:∃wz,wz=wc.alloc (.cells #[.int .i64 0,.int .i64 0,.int .i64 0,.int .i64 0,.string ⟨#[]⟩] 90):=⟨_,rfl⟩
   rw[<-ja,<-hZ]at fs;rw[<-hZ]at gz;rw[<-ja]at HW C7 ⊢;rw[<-hZ];clear ja hZ;refine hK.out _ _ uAw (fun ab=> ?_);clear hK K;(try simp only[pq]);refine tkU 13 none (h:=fun K hK=> ?_);refine eC 90 _ _ rfl Z (bN ⟨tk,ta,te,tn,tt⟩) rfl rfl 90 _ fs.out bR rfl uBw ?_;intro wS hS kS;refine hK.out _ _ ?_;clear hK K;(try simp only[pq]);refine tkU 14 (some 4) (h:=fun K hK=> ?_);go_simp;refine hK.out _ _ ?_;clear hK K;(try simp only[pq]);refine bJ uAu ?_ _;clear ab;exact pz _ wS E ⟨hS,(HE.out.later (C7.out.trans (kS.below (jU Kl.out.symm)))).low (by have:=my.out;have:=HS1.out;omega),HW.out.trans (kS.below gz.out),gz.out⟩
  ·go_simp
   have fs:Hid ((wd.alloc (.cells #[.int .i64 0,.int .i64 0,.int .i64 0,.int .i64 0,.string ⟨#[]⟩] 90)).heap[wd.heap.size]? =some (.cells #[.int .i64 0,.int .i64 0,.int .i64 0,.int .i64 0,.string ⟨#[]⟩] 90 (0,0))):=aC _ _;have gz:Hid (w1.heap.size<=wd.heap.size):=HW.out.size;have C7:=iH (Below.newly' wd (.cells #[.int .i64 0,.int .i64 0,.int .i64 0,.int .i64 0,.string ⟨#[]⟩] 90));replace HW:=iH (tW HW.out C7.out);obtain⟨Z,hZ⟩:∃Z,Z=wd.heap.size:=⟨_,rfl⟩
   have Kl:Hid (Z=wd.heap.size):=hZ;obtain⟨wz,ja⟩:∃wz,wz=wd.alloc (.cells #[.int .i64 0,.int .i64 0,.int .i64 0,.int .i64 0,.string ⟨#[]⟩] 90):=⟨_,rfl⟩
   rw[<-ja,<-hZ]at fs;rw[<-hZ]at gz;rw[<-ja]at HW C7 ⊢;rw[<-hZ];clear ja hZ;refine hK.out _ _ uAw (fun ab=> ?_);clear hK K;(try simp only[pq]);refine tkO 8 (some 14) (h:=fun K hK=> ?_);go_simp;go_at_call 49;(with_reducible refine(fk.out _ uBx).mono ?_);rintro r wc ⟨E,rfl,he,hb⟩;have HE:=iH he;have O6:=iH (kW hb fs.out);have my:=iH HW.out.size;replace HW:=iH (tW HW.out hb);clear he hb;dsimp only;refine hK.out _ _ uAw (fun ab=> ?_);clear hK K;(try simp only[pq]);refine tkL 9 5 (h:=?_);refine tkP 11 16 (h:=?_);(try simp only[pq]);refine tkL 10 15 (h:=?_);(try simp only[pq]);refine tkU 13 none (h:=fun K hK=> ?_);refine eC 90 _ _ rfl Z (bN ⟨tk,ta,te,tn,tt⟩) rfl rfl 90 _ O6.out bR rfl uBw ?_;intro wS hS kS;refine hK.out _ _ ?_;clear hK K;(try simp only[pq]);refine tkU 14 (some 4) (h:=fun K hK=> ?_);go_simp;refine hK.out _ _ ?_;clear hK K;(try simp only[pq]);refine bJ uAu ?_ _;clear ab;exact pz _ wS E ⟨hS,(HE.out.but kS (gZ fs.out)).low (by have:=my.out;have:=HS1.out;omega),HW.out.trans (kS.below gz.out),gz.out⟩
 ·rintro Z wS E ⟨hZ,hE,hB,Km⟩
  have D1:=iH hZ;have KQ:=iH hE;have zy:=iH hB;have gz:Hid (w1.heap.size<=Z):=Km;have zi:Hid (w.grownBy wS (some rb)):=dS (tW HB1.out hB) _;have Nb:=iH (kW hB HR1.out);have gw:=iH (kW hB kg.out);clear hZ hB Km HW ar fk;by_cases c1:qe=0
  case neg=>
   obtain⟨b,rfl⟩:=hE.shape c1;clear hE;go_wp2_with fail
   exact⟨rfl,HA.out c1 _ _ KQ.out zi.out⟩
  obtain rfl:E=.nilIface:=by
   rcases hE with h|⟨_,_,_,_,_,h,_⟩
   ·exact h.2
   ·exact absurd c1 h
  clear hE;have d0:wS.cell? ⟨Z,0,none⟩=some (.int .i64 tk):=aG D1.out rfl;have d1:wS.cell? ⟨Z,1,none⟩=some (.int .i64 (ta:Int)):=aG D1.out rfl;have d2:wS.cell? ⟨Z,2,none⟩=some (.int .i64 (te:Int)):=aG D1.out rfl;by_cases c2:tk=0
  case pos=>
   have g2:(tk==0)=true:=eK.2 c2;have yj:=iH c2;have bd:=iH c1;clear c1 c2 d2;go_wp2_with (go_at_call 100;refine(mb.out _).mono ?_;rintro r V ⟨E,rfl,he,hb⟩;have HE:=iH he;have fh:=iH hb;clear he hb)
   have de:=zy.out.size;exact⟨rfl,HB.out bd.out yj.out _ _ (HE.out.low uBu) (bD zi.out (dS fh.out _))⟩
  have g2:(tk==0)=false:=aE.2 c2;have yj:=iH c2;have bd:=iH c1;clear c1 c2;go_wp2_with (first
   |(refine lP rfl 3 _ _ rfl rb 3 _ rfl rfl rfl 103 _ Nb.out uG (show 3<5 by omega) ?_;intro w2 h2 k2;have gl:=iH h2;have du:=iH k2;have fx:=iH (k2.other D1.out (fun e=>by have:=gz.out;have:=HS1.out;have:=HRL.out;omega));have j6:=iH (k2.other gw.out (fun e=>by have:=HRL.out;omega));clear h2 k2)
   |(refine aW rfl 90 _ rfl Z rfl 90 _ _ _ fx.out Tryz.underlying90 rfl bR ?_)
   |(refine aV rfl 90 _ _ rfl w.heap.size (bN ⟨tk,ta,te,tn,tt⟩) rfl rfl 90 _ j6.out bR rfl uBw ?_;intro w3 h3 k3))
  refine aN (bE rfl _ _ w.heap.size 90 _ (0,0) _ rfl h3 Tryz.underlying90 rfl bR) rfl ?_;exact HC.out bd.out yj.out _ (k3.other gl.out (fun e=>by have:=HRL.out;omega)) (nE (bD zi.out du.out.by_) k3 (aA _))
theorem aDa (t:Tok) (c:UInt8) (w:World) (h:isS t c=true):Calls Tryz.prog 137 #[.agg (bN t),.string ⟨#[c]⟩] w fun e w'=>e=.returned (.tuple #[])/\Below w.heap.size w w':=by
 have zo:Hid (∀W,Calls Tryz.prog 135 #[.agg (bN t),.string ⟨#[c]⟩] W fun e w'=>e=.returned (.bool true)/\Below W.heap.size W w'):=fun W=>by
  have h1:=tA t ⟨#[c]⟩ W;rw[show(decide (t.k=1)&&t.t==(⟨#[c]⟩:ByteArray).data.toList)=true from h]at h1;exact h1
 obtain⟨w1,ag⟩:∃w1,w1=w.alloc (.cells (bN t) 90):=⟨_,rfl⟩
 obtain⟨af,h1,_⟩:=aBT t ag;have HX1:=iH h1;have HB1:=iH af;have HW:Hid (Below w1.heap.size w1 w1):=bB _ _;clear h af h1;go_enter Tryz.func137,Tryz.ntmps137;go_upto_region 1 with fail
 rw[<-ag];clear ag;go_wp2_with (first
  |(refine aW rfl 90 _ rfl w.heap.size rfl 90 _ _ _ HX1.out Tryz.underlying90 rfl bR ?_)
  |(go_at_call 135;refine(zo.out _).mono ?_;rintro r V ⟨rfl,hb⟩;replace HW:=iH (tW HW.out hb);have HX2:=iH (kW hb HX1.out);have c1:V.cell? ⟨w.heap.size,1,none⟩=some (.int .i64 (t.a:Int)):=aG HX2.out rfl;clear hb))
 go_end0;exact⟨rfl,tW HB1.out HW.out⟩
theorem aB5 (t:Tok) (c:UInt8) (w:World) (h:isS t c=false) (mo:t.a<=2000000):Calls Tryz.prog 137 #[.agg (bN t),.string ⟨#[c]⟩] w fun e w'=>∃E,e=.panicked [brk E]/\fR w.heap.size w' E 2 (t.a:Int)/\Below w.heap.size w w':=by
 have zo:Hid (∀W,Calls Tryz.prog 135 #[.agg (bN t),.string ⟨#[c]⟩] W fun e w'=>e=.returned (.bool false)/\Below W.heap.size W w'):=fun W=>by
  have h1:=tA t ⟨#[c]⟩ W;rw[show(decide (t.k=1)&&t.t==(⟨#[c]⟩:ByteArray).data.toList)=false from h]at h1;exact h1
 have mb:=iH (fun W=>pY 2 t.a W uAv mo);obtain⟨w1,ag⟩:∃w1,w1=w.alloc (.cells (bN t) 90):=⟨_,rfl⟩
 obtain⟨af,h1,_⟩:=aBT t ag;have HX1:=iH h1;have HB1:=iH af;have HW:Hid (Below w1.heap.size w1 w1):=bB _ _;clear h mo af h1;go_enter Tryz.func137,Tryz.ntmps137;go_upto_region 1 with fail
 rw[<-ag];clear ag;go_wp2_with (first
  |(refine aW rfl 90 _ rfl w.heap.size rfl 90 _ _ _ HX1.out Tryz.underlying90 rfl bR ?_)
  |(go_at_call 135;refine(zo.out _).mono ?_;rintro r V ⟨rfl,hb⟩;replace HW:=iH (tW HW.out hb);have HX2:=iH (kW hb HX1.out);have c1:V.cell? ⟨w.heap.size,1,none⟩=some (.int .i64 (t.a:Int)):=aG HX2.out rfl;clear hb)
  |(go_at_call 100;refine(mb.out _).mono ?_;rintro r V2 ⟨E,rfl,he,hb⟩;have HE:=iH he;have aq:=iH hb;clear he hb))
 have de:=HW.out.size;have al:=HB1.out.size;exact⟨rfl,_,rfl,HE.out.low hO,HB1.out.trans ((tW HW.out aq.out).mono HB1.out.size)⟩
def Ctx (B:Nat) (w:World):Prop:=∃w0,w0.heap.size=B/\T13 w0/\iF w0/\Below B w0 w
theorem Ctx.size {B:Nat} {w:World} (h:Ctx B w):B<=w.heap.size:=by obtain⟨w0,h1,_,_,h2⟩:=h;have:=h2.size;omega
theorem Ctx.t13 {B:Nat} {w:World} (h:Ctx B w):T13 w:=by obtain⟨w0,rfl,h1,_,h2⟩:=h;exact h1.below h2
theorem Ctx.tab6 {B:Nat} {w:World} (h:Ctx B w):iF w:=by obtain⟨w0,rfl,_,h1,h2⟩:=h;exact h1.below h2
theorem Ctx.grown {B rb:Nat} {w w':World} (h:Ctx B w) (hg:w.grownBy w' (some rb)) (hr:B<=rb):Ctx B w':=by
 have hs:=h.size;obtain⟨w0,h1,h2,h3,h4⟩:=h;exact⟨w0,h1,h2,h3,h4.grown hg hs fun k e=>by have:=aH e;omega⟩
theorem Ctx.later {B C:Nat} {w w':World} (h:Ctx B w) (hb:Below C w w') (hC:B<=C):Ctx B w':=by
 exact Al4
theorem Ctx.grown_only {B X:Nat} {w w':World} (h:Ctx B w) (k:iL X w w') (hX:B<=X):Ctx B w':=h.later (k.below hX) (aA _)
theorem Ctx.start {w:World} (h:T13 w) (h6:iF w):Ctx w.heap.size w:=⟨w,rfl,h,h6,bB _ _⟩
section
def dG (B s:Nat) (bb:Int) (x:ByteArray) (w:World) (rb a n:Nat):Prop:=Ctx B w/\B<=rb/\w.heap[rb]? =some (.cells (rdC s bb x (a:Int) (n:Int)) 103 (0,0))
theorem dG.later {B s:Nat} {bb:Int} {x:ByteArray} {w w':World} {rb a n:Nat} (h:dG B s bb x w rb a n) (hb:Below w.heap.size w w'):dG B s bb x w' rb a n:=
 ⟨h.1.later hb h.1.size,h.2.1,kW hb h.2.2⟩
theorem dG.only {B s:Nat} {bb:Int} {x:ByteArray} {w w':World} {rb a n X:Nat} (h:dG B s bb x w rb a n) (k:iL X w w') (hX:rb<X):dG B s bb x w' rb a n:=
 ⟨h.1.grown_only k (aI h.2.1 (eH hX)),h.2.1,k.other h.2.2 (Nat.ne_of_lt hX)⟩
theorem dG.ctx {B s:Nat} {bb:Int} {x:ByteArray} {w:World} {rb a n:Nat} (h:dG B s bb x w rb a n):Ctx B w:=h.1
theorem tl4 {α β γ δ:Type} {Q P:α->β->γ->δ->Prop} {G:Prop} (M5:(∀a b c d,Q a b c d->P a b c d)->G) (rest:∀a b c d,Q a b c d->P a b c d):G:=M5 rest
def Left (w:World) (rb:Nat) (q:Nat×Int) (e:Ending) (w':World):Prop:=∃E,e=.panicked [brk E]/\fR w.heap.size w' E q.2 (q.1:Int)/\w.grownBy w' (some rb)
section
variable (B s : Nat) (bb : Int) (x : ByteArray)
def aF4 (S:Nat->Prop) (w:World) (rb:Nat) (y:Except (Nat×Int) Rd) (e:Ending) (w':World):Prop:=match y with
 | .ok R=>∃y,e=.returned (.agg (aL y))/\VAt (fun g=>S g\/w.heap.size<=g) w' (cP R.t) y/\dG B s bb x w' rb R.e R.n/\w.grownBy w' (some rb)
 | .error q=>Left w rb q e w'
def aJW (f:Nat):Prop:=∀(w:World) (rb d b n:Nat) (t:Tok),dG B s bb x w rb t.e n->1<=d->d<=65->n<=16384->b<=x.size->nxR x.data.toList b=.ok t->2*(x.size-b)+1<=f->
 Calls Tryz.prog 53 #[.pointer (some ⟨rb,0,none⟩),.agg (bN t),.int .i64 (d:Int)] w (aF4 B s bb x (fun _=>False) w rb (rdV x.data.toList f d b n))
def aB8 (fn:Nat) (k:Int) (f:Nat):Prop:=∀(w:World) (rb:Nat) (d a n:Nat) (seen:List (List UInt8)) (ks:List ByteArray) (xs:List Tr) (u:Tok) (S:Nat->Prop) (y:Cel),dG B s bb x w rb u.e n->tH k d n seen ks xs->1<=d->d<=64->n<=16384->VAt S w (cP (.nd k 0 ⟨#[]⟩ ks xs)) y->kK x.size (.nd k 0 ⟨#[]⟩ ks xs)->
 (∀g,S g->g<w.heap.size/\g≠rb)->a<=x.size->nxR x.data.toList a=.ok u->2*(x.size-a)+1<=f->
 Calls Tryz.prog fn #[.pointer (some ⟨rb,0,none⟩),.agg (aL y),.agg (bN u),.int .i64 ((d:Int)+1)] w fun e w'=>match iS x.data.toList f k d a n seen ks with
  | .ok (r,_,kt)=>∃y,e=.returned (.agg (aL y))/\VAt (fun g=>S g\/w.heap.size<=g) w' (cP (.nd k 0 ⟨#[]⟩ kt (xs++[r.t]))) y/\dG B s bb x w' rb r.e r.n/\w.grownBy w' (some rb)
  | .error q=>Left w rb q e w'
def aQn (f:Nat):Prop:=∀(w:World) (rb:Nat) (k:Int) (d a n:Nat) (S:Nat->Prop) (y:Cel),dG B s bb x w rb a n->(k=4\/k=5\/k=6)->1<=d->d<=64->1<=n->n<=16384->VAt S w (.nd k 0 ⟨#[]⟩ [] []) y->(∀g,S g->g<w.heap.size/\g≠rb)->a<=x.size->2*(x.size-a)+2<=f->
 Calls Tryz.prog 101 #[.pointer (some ⟨rb,0,none⟩),.agg (aL y),.int .i64 ((d:Int)+1)] w (aF4 B s bb x S w rb (aAQ x.data.toList f k d a n))
end
end
theorem aA0 (B s:Nat) (bb:Int) (x:ByteArray) (w:World) (rb a n:Nat) (h:dG B s bb x w rb a n) (ha:a<=x.size) (hx:x.size<=2000000):
  Calls Tryz.prog 54 #[.pointer (some ⟨rb,0,none⟩)] w fun e w'=>match nxR x.data.toList a with
   | .ok t=>e=.returned (.agg (bN t))/\dG B s bb x w' rb t.e n/\w.grownBy w' (some rb)
   | .error q=>Left w rb q e w':=by
 obtain⟨hc,hB,hr⟩:=h;have hk:=sA x.data.toList a (by rw[cY];exact ha);have hl:x.data.toList.length=x.size:=cY x;unfold nxR;generalize hQ:cB x.data.toList a=Q at hk ⊢;obtain⟨⟨tk,ta,te,tn,tt⟩,qn,qe⟩:=Q;simp only at hk ⊢;have mo:ta<=2000000\/qe≠0:=by
  by_cases c:qe=0
  ·have:=hk c;exact .inl hO
  ·exact .inr c
 rcases mo with mo|Ew
 ·refine aIr _ x rb s bb a n tk ta te tn tt qn qe w hr mo (fun W hb=> ?_) ?_ ?_ ?_
  ·have:=zI x a W (hc.t13.below hb) ha hx
   rw[hQ]at this;exact this
  ·intro c E W h1 h2
   rw[if_pos c];exact⟨E,rfl,h1,h2⟩
  ·intro c c2 E W h1 h2
   have:=(hk c).2.2.2.2.1 c2;rw[if_neg (by rw[c];simp),if_pos c2];exact⟨E,rfl,by rw[<-this];exact h1,h2⟩
  ·intro c c2 W h1 h2
   rw[if_neg (by rw[c];simp),if_neg c2];exact⟨rfl,⟨hc.grown h2 hB,hB,h1⟩,h2⟩
 ·refine(aIr _ x rb s bb a n 0 0 0 0 [] qn qe w hr uAv (fun W hb=> ?_) ?_ (fun c=>absurd c Ew) (fun c=>absurd c Ew))
  ·have:=zI x a W (hc.t13.below hb) ha hx
   rw[hQ]at this;have hz:aFq ⟨tk,ta,te,tn,tt⟩=aFq ⟨0,0,0,0,[]⟩:=by
    unfold cB at hQ;simp only at hQ;split at hQ
    ·simp only[cZ]at hQ;exact absurd hQ.2.2.symm Ew
    ·simp only[cZ]at hQ;rw[<-hQ.1]
   rw[hz]at this;exact this
  ·intro c E W h1 h2
   rw[if_pos c];exact⟨E,rfl,h1,h2⟩
end Go.Proofs.YthmfgidbcghnfaaGreatDoor
namespace Go.Proofs.YthmfgidbcghnfaaGreatDoor
open Go.RowKit
def NotT (W:World) (g:Nat):Prop:=∀cs fr,W.heap[g]? ≠some (.cells cs 127 fr)
theorem dE.nott {S:Nat->Prop} {W:World} {T:TypeId} {s n:Nat} {v:Value} {cs:List Value} (h:dE S W T s v cs n) (hT:T≠127):dE (fun g=>S g/\NotT W g) W T s v cs n:=by
 obtain⟨h1,h2⟩:=h;refine⟨h1,h2.imp_right ?_⟩;rintro⟨h3,g,c,aj,fr,h4,h5,h6,h7,h8⟩;refine⟨h3,g,c,aj,fr,h4,h5,⟨h6,fun Jc N4 e=> ?_⟩,h7,h8⟩;rw[h7]at e;simp only[bA,dK]at e;exact hT e.2.1
theorem eT.nott {S:Nat->Prop} {W:World}:∀{h:Nat} {p:Kid},eT S W h p->eT (fun g=>S g/\NotT W g) W h p
 |0,_,⟨h1,h2,h3,h4,h5⟩=>⟨h1,h2,h3,h4,h5.nott uAv⟩
 |h+1,p,⟨h1,h2,h3,ks,h4,h5,h6,h7⟩=>⟨h1,h2,h3,ks,h4.nott uAv,h5,h6,fun q hq=>⟨(h7 q hq).1,(h7 q hq).2.nott⟩⟩
theorem cW.nott {S:Nat->Prop} {W:World} {c:Array Value} {l:List Cel} (hn:cW S W c l):cW (fun g=>S g/\NotT W g) W c l:=by
 rcases hn with hn|⟨h,p,h1,h2,h3,h4⟩
 ·exact .inl hn
 ·exact .inr ⟨h,p,h1,h2,h3.nott,h4⟩
theorem aP6 (l:List Cel) (i:Nat) (c:Cel):qY l i c=eN i l c:=by
 first|rfl|(unfold qY eN;simp)
theorem aLv {S:Nat->Prop} (w:World) (a:Tr) (xa:Cel) (ha:fQ a) (km:VAt S w a xa) (ii:Int) (yt:Tr) (cy:Cel) (jc:fQ yt) (uf:VAt S w yt cy):
  Calls Tryz.prog 169 #[.agg (aL xa),.int .i64 ii,.agg (aL cy)] w fun r w'=>∃y,r=.returned (.tuple #[.agg (aL y),.int .i64 (aDX a ii yt).2])/\VAt (fun g=>S g\/w.heap.size<=g) w' (aDX a ii yt).1 y/\Below w.heap.size w w':=by
 obtain⟨w1,ag⟩:∃w1,((w.alloc (.cells (aL xa) 37)).alloc (.cells (aL cy) 37)).alloc (.cells #[.int .i64 0,.int .i64 0,.string ⟨#[]⟩,.pointer none] 37)=w1:=⟨_,rfl⟩
 obtain⟨af,ai,aw,bu,al⟩:=dF ag;have HX1:=iH ai;have bl:=iH aw;have HR1:=iH bu;have HB1:=iH af;have HS1:=iH al;have dh:=iH (fun W=>iQ W xa);rw[km.k]at dh;by_cases h4:a.k=4
 ·rw[h4]at dh
  obtain⟨ba,la,el,Is,gu,rr,Gx,kr,O2,O3,O4,xb,mn,qp,ru,qh⟩:=km.old.parts hO;have px:rr.size=4/\Gx.size=6:=⟨qp.size,ru.size⟩
  have Dy:w1.cell? ⟨w.heap.size,3,none⟩=some (.pointer (some ⟨ba,0,none⟩)):=aG ai (by rw[<-el];rfl);have py:=kW af xb;have HC:=iH (And.intro Dy (And.intro (sQ px.1 py) (And.intro (vY px.1 px.2 py) aw)));have Af:=gD gu;have dx:=ha.len;have wm:=aJ0 ha;have tf:=ha.nodL;have Gy:=jc.dep;have Cb:=jc.nod;have F5:=qp;rw[vV h4]at F5;have Iw:=ru;rw[aCC h4]at Iw;have HZ:=iH px;have A4:=iH (fun W (hb:Below w1.heap.size w1 W)=>tN W yt cy jc (uf.later (tW af hb)));obtain⟨Kd,Sx⟩:∃Kd:Nat->Prop,Kd=fun g=>(S g/\g<w.heap.size)\/w1.heap.size<=g:=⟨_,rfl⟩
  by_cases Bh:0<=ii/\ii<=(a.xs.length:Int)
  ·obtain⟨i,rfl⟩:∃i:Nat,ii=(i:Int):=⟨ii.toNat,by omega⟩
   have e:aDX a (i:Int) yt=dY (Tr.nd 4 0 ⟨#[]⟩ [] (eN i a.xs yt)):=by unfold aDX;rw[if_neg hO,if_neg hO,kM]
   rw[e];obtain⟨wu,C8⟩:∃wu,wu=eN i la cy:=⟨_,rfl⟩
   obtain⟨er,Nc⟩:∃er:Int,er=0:=⟨_,rfl⟩
   have dz:=aAi i a.xs yt;have i1:=fM (eN i a.xs yt);have i2:=nT dz;have i3:=pH dz;rw[qW]at i2;rw[sW]at i3;simp only[fP,cU]at i2 i3;have F6:∀W,Below w1.heap.size w1 W->Calls Tryz.prog 195 #[.agg rr,.int .i64 (i:Int),.agg (aL cy)] W fun r W'=>∃c',r=.returned (.tuple #[.agg c',.int .i64 er])/\cW Kd W' c' wu/\Below W.heap.size W W':=fun W hW=>
    (aLQ W (F5.later (tW af hW)) i cy hO hO).mono fun r W' ⟨c',h1,h2,h3⟩=>⟨c',by rw[Nc];exact h1,by rw[C8,Sx,<-aP6];exact h2.weak fun g hg=>hg.elim .inl fun hg=>.inr (aI hW.size hg),h3⟩
   have jm:Hid (∀W dt,Below w1.heap.size w1 W->bY (fun _=>True) W 1 dt (iv (tal [yt])) (tal [yt]).length->Calls Tryz.prog 68 #[.agg #[kr,.int .i64 (cU a.xs:Int)],.agg #[dt,.int .i64 ((eW yt:Nat):Int)]] W fun r W'=>∃dn,r=.returned (.agg #[dn,.int .i64 ((cU (eN i a.xs yt):Nat):Int)])/\bY (fun g=>W.heap.size<=g) W' 1 dn (iv (tal (eN i a.xs yt))) (tal (eN i a.xs yt)).length/\Below W.heap.size W W'):=fun W dt hW It=>by
    exact Ac5
   rw[fM]at wm;have re:∀X Ik wa,Below w1.heap.size w1 wa->cW (fun g=>(S g/\g<w.heap.size)\/w1.heap.size<=g) wa Ik wu->wa.heap[X]? =some (.cells Ik 127 (0,0))->∀W dn,Below wa.heap.size wa W->bY (fun g=>w1.heap.size<=g) W 1 dn (iv (tal (eN i a.xs yt))) (tal (eN i a.xs yt)).length->Calls Tryz.prog 196 #[.agg (aL xa),.agg #[dn,.int .i64 ((cU (eN i a.xs yt):Nat):Int)],.func (.func 197) #[] #[.pointer (some ⟨X,0,none⟩)]] W fun r W'=>∃y,r=.returned (.tuple #[.agg (aL y),.int .i64 (dY (Tr.nd 4 0 ⟨#[]⟩ [] (eN i a.xs yt))).2])/\VAt (fun g=>((S g/\g<w.heap.size)\/w1.heap.size<=g)\/W.heap.size<=g) W' (dY (Tr.nd 4 0 ⟨#[]⟩ [] (eN i a.xs yt))).1 y/\Below W.heap.size W W':=fun X Ik wa y9 KR hX W dn hW M8=>by
    have dy:=af.trans ((tW y9 hW).mono af.size);exact rK (S:=(fun g=>(S g/\g<w.heap.size)\/w1.heap.size<=g)) W xa ba el rr Gx kr (cU a.xs) O2 (kW dy xb) _ ((qp.later dy).weak fun _ h=>.inl h) _ O3 O4 ((ru.later dy).weak fun _ h=>.inl h) mn (tal a.xs) ((qh.later dy).weak fun _ h=>.inl h) 197 #[.pointer (some ⟨X,0,none⟩)] (iX Tryz.func197 uAu rfl)
     (Tr.nd 4 0 ⟨#[]⟩ [] (eN i a.xs yt)) (by rw[aMd];omega) (km.k.trans h4) ⟨(km.two ha hO).1,rfl⟩ ⟨(km.two ha hO).2,rfl⟩ (eN i la cy) (aBP ((gu.later dy).weak fun _ h=>.inl h) _ ((uf.old.later dy).weak fun _ h=>.inl h))
     (by
      rw[aMd,aKp,uO,vV rfl,aCC rfl,<-C8];exact aSa wu Ik (KR.later hW) ((Iw.later dy).weak fun _ h=>.inl h) X (0,0) (kW hW hX) px.1 px.2)
     dn (M8.weak fun _ h=>.inr h) uKv uKv
   rw[<-Sx]at re;obtain⟨ns,A5⟩:∃ns,ns=eN i a.xs yt:=⟨_,rfl⟩
   obtain⟨A',F2⟩:∃t,t=(Tr.nd 4 0 ⟨#[]⟩ [] (eN i a.xs yt)):=⟨_,rfl⟩
   rw[<-F2]at re ⊢;rw[<-A5]at re jm;obtain⟨R1,F3⟩:∃t,t=(dY A').1:=⟨_,rfl⟩
   obtain⟨R2,wb⟩:∃t,t=(dY A').2:=⟨_,rfl⟩
   rw[<-F3,<-wb]at re ⊢;have F7:=iH F6;have A8:=iH re;have o7:=iH Sx;have sz:=iH Nc;clear F2 A5 F3 wb ai aw bu al af ha km jc uf h4 e Is gu xb qp ru qh py Af dx wm tf Gy Cb el mn Dy px dz i1 i2 i3 F5 Iw F6 re Sx Bh Nc C8;go_enter Tryz.func169,Tryz.ntmps169;go_upto_region 1 with fail
   clear ag;go_upto_region 3 with(first
    |(refine aW rfl 37 _ rfl w.heap.size rfl 37 _ _ _ HX1.out Tryz.underlying37 rfl aF ?_)
    |(go_at_call 32;(with_reducible refine(dh.out _).mono ?_);rintro r w2 ⟨rfl,ah⟩;have aq:=iH ah;clear ah))
   obtain⟨wg,B8⟩:∃wg,wg=w2.drew:=⟨_,rfl⟩
   have jo:Hid (Below w1.heap.size w1 wg):=by show Below _ _ _;rw[B8];exact aq.out.trans ((aY w2).mono aq.out.size)
   have Co:=iH (fun W (hW:Below wg.heap.size wg W)=>F7.out W (tW jo.out hW));have vu:Hid (∀A B,(A.cell? ⟨w.heap.size,3,none⟩=some (.pointer (some ⟨ba,0,none⟩))/\A.rangeAt ba 0 rr.toList/\A.heap[w.heap.size+1]? =some (.cells (aL cy) 37 (0,0)))->Below A.heap.size A B->(B.cell? ⟨w.heap.size,3,none⟩=some (.pointer (some ⟨ba,0,none⟩))/\B.rangeAt ba 0 rr.toList/\B.heap[w.heap.size+1]? =some (.cells (aL cy) 37 (0,0)))):=fun A B h hb=>⟨dQ h.1 hb,fF h.2.1 hb,kW hb h.2.2⟩
   have ar:Hid (∀V,Below wg.heap.size wg V->(V.cell? ⟨w.heap.size,3,none⟩=some (.pointer (some ⟨ba,0,none⟩))/\V.rangeAt ba 0 rr.toList/\V.heap[w.heap.size+1]? =some (.cells (aL cy) 37 (0,0)))):=fun V hV=>vu.out _ _ ⟨dQ HC.out.1 jo.out,fF HC.out.2.1 jo.out,kW jo.out HC.out.2.2.2⟩ hV
   have HW:Hid (Below wg.heap.size wg wg):=bB _ _;have F8:Hid (wg.cell? ⟨w.heap.size,3,none⟩=some (.pointer (some ⟨ba,0,none⟩))/\wg.rangeAt ba 0 rr.toList/\wg.heap[w.heap.size+1]? =some (.cells (aL cy) 37 (0,0))):=⟨dQ HC.out.1 jo.out,fF HC.out.2.1 jo.out,kW jo.out HC.out.2.2.2⟩
   refine bO (S:=(fun V=>V.cell? ⟨w.heap.size,3,none⟩=some (.pointer (some ⟨ba,0,none⟩))/\V.rangeAt ba 0 rr.toList/\V.heap[w.heap.size+1]? =some (.cells (aL cy) 37 (0,0)))) [10,12,13] uAu (by rw[<-B8];exact F8.out) (fun ab=> ?_);rw[<-B8]at ab ⊢;clear B8;refine tkL 0 15 (h:=?_);refine tkL 1 16 (h:=?_);(try simp only[pq]);refine tkL 2 17 (h:=?_);refine tkL 3 18 (h:=?_);(try simp only[pq]);refine tyL 4 19 (hy:=dX uAz 127 _ rfl ba 0 rfl rr _ (fun w hw=>hw.2.1) Tryz.underlying127 rfl uKy) (h:=?_);refine tkL 5 20 (h:=?_);(try simp only[pq]);refine tyL 6 21 (hy:=aJ uAz 37 _ rfl (w.heap.size+1) rfl (aL cy) 37 (0,0) _ (fun w hw=>hw.2.2) Tryz.underlying37 rfl uCu) (h:=?_);(try simp only[pq]);refine fU (rs:=[7,11]) uAu uAy (jJ.cons (o:=⟨some 22,_,_,_,_,_⟩) rfl (fun K hK=> ?_) (jJ.cons (o:=⟨some 8,_,_,_,_,_⟩) rfl (fun K hK=> ?_) jJ.nil))
   focus go_simp
   focus go_at_call 195;(with_reducible refine(Co.out _ uBx).mono ?_);rintro r wc ⟨c1,rfl,hr,hb⟩;have Cl:=iH hr;replace HW:=iH (tW HW.out hb);clear hb hr;dsimp only;refine hK.out _ _ uAw (fun ab=> ?_);clear hK K;(try simp only[pq]);refine tkL 8 14 (h:=?_);refine tkP 10 24 (h:=?_);(try simp only[pq]);refine tkL 9 23 (h:=?_);(try simp only[pq]);refine tkO 11 (some 8) (h:=fun K hK=> ?_);focus go_simp;have sr:Hid ((wc.alloc (.cells #[.int .i64 0,.int .i64 0,.slice none 0 0,.slice none 0 0] 127)).heap[wc.heap.size]? =some (.cells #[.int .i64 0,.int .i64 0,.slice none 0 0,.slice none 0 0] 127 (0,0))):=aC _ _;have ud:Hid (w1.heap.size<=wc.heap.size):=aI jo.out.size HW.out.size;replace HW:=iH (HW.out.trans ((Below.newly' wc (.cells #[.int .i64 0,.int .i64 0,.slice none 0 0,.slice none 0 0] 127)).mono HW.out.size));obtain⟨X,hX⟩:∃X,X=wc.heap.size:=⟨_,rfl⟩
   obtain⟨wx,ra⟩:∃wx,wx=wc.alloc (.cells #[.int .i64 0,.int .i64 0,.slice none 0 0,.slice none 0 0] 127):=⟨_,rfl⟩
   rw[<-ra,<-hX]at sr;rw[<-hX]at ud;rw[<-ra]at HW ⊢;rw[<-hX];have Nd:=iH (Cl.out.later (show Below wc.heap.size wc wx by rw[ra];exact Below.newly' _ _));clear ra hX;refine hK.out _ _ uAw (fun ab=> ?_);clear hK K;(try simp only[pq]);have fx:=sr;have mz:=iH Nd.out.nott;have L1:=HW;have KU:Hid (X<wx.heap.size):=(gZ sr.out)
   rotate_left
   focus go_simp
   have sr:Hid ((wg.alloc (.cells #[.int .i64 0,.int .i64 0,.slice none 0 0,.slice none 0 0] 127)).heap[wg.heap.size]? =some (.cells #[.int .i64 0,.int .i64 0,.slice none 0 0,.slice none 0 0] 127 (0,0))):=aC _ _;have ud:Hid (w1.heap.size<=wg.heap.size):=aI jo.out.size HW.out.size;replace HW:=iH (HW.out.trans ((Below.newly' wg (.cells #[.int .i64 0,.int .i64 0,.slice none 0 0,.slice none 0 0] 127)).mono HW.out.size));obtain⟨X,hX⟩:∃X,X=wg.heap.size:=⟨_,rfl⟩
   obtain⟨wx,ra⟩:∃wx,wx=wg.alloc (.cells #[.int .i64 0,.int .i64 0,.slice none 0 0,.slice none 0 0] 127):=⟨_,rfl⟩
   rw[<-ra,<-hX]at sr;rw[<-hX]at ud;rw[<-ra]at HW ⊢;rw[<-hX];clear ra hX;refine hK.out _ _ uAw (fun ab=> ?_);clear hK K;(try simp only[pq]);refine tkO 7 (some 22) (h:=fun K hK=> ?_);focus go_simp;focus go_at_call 195;(with_reducible refine(Co.out _ uBx).mono ?_);rintro r wc ⟨c1,rfl,hr,hb⟩;have Cl:=iH hr;have fx:=iH (kW hb sr.out);replace HW:=iH (tW HW.out hb);clear hb hr;dsimp only;refine hK.out _ _ uAw (fun ab=> ?_);clear hK K;(try simp only[pq]);refine tkL 8 14 (h:=?_);refine tkP 10 24 (h:=?_);(try simp only[pq]);refine tkL 9 23 (h:=?_);(try simp only[pq]);have mz:=iH Cl.out.nott
   all_goals
    refine tkU 12 none (h:=fun K hK=> ?_);refine eC 127 _ _ rfl X c1 rfl rfl 127 #[.int .i64 0,.int .i64 0,.slice none 0 0,.slice none 0 0] fx.out (by rw[cW.size mz.out];exact dM) (by rw[cW.size mz.out];rfl) (cW.one mz.out) ?_;intro wa y9 pn;refine hK.out _ _ ?_;clear hK K;(try simp only[pq]);refine tkU 13 (some 9) (h:=fun K hK=> ?_);go_simp;refine hK.out _ _ ?_;clear hK K;(try simp only[pq]);refine bJ uAu ?_ _;have zj:=ud.out;have al:=HS1.out;have Nf:=jo.out.size;have gm:Hid (Below w1.heap.size w1 wa):=(tW jo.out HW.out).trans (pn.below hO);have U2:Hid (cW (fun g=>(S g/\g<w.heap.size)\/w1.heap.size<=g) wa c1 wu):=by
     have h:=mz.out.imp (Kq.only pn (fun h=>h.2 _ _ fx.out)) (S':=Kd) (fun g h _=>h.1);rw[o7.out]at h;exact h
    have jr:=iH y9;have th:∀g,g<w1.heap.size->g≠X:=fun g hg=>by omega
    have rv:=iH (pn.other (((tW jo.out HW.out).block _ (gZ HX1.out)).trans HX1.out) (th _ hO));have Kk:=iH (pn.other (((tW jo.out HW.out).block _ (gZ bl.out)).trans bl.out) (th _ hO));have A6:=iH (pn.other (((tW jo.out HW.out).block _ (gZ HR1.out)).trans HR1.out) (th _ hO));have qi:=iH (A8.out X c1 wa gm.out (by rw[o7.out];exact U2.out) jr.out);have Dz:Hid (wa.cell? ⟨w.heap.size,3,none⟩=some (.pointer (some ⟨ba,0,none⟩))/\wa.rangeAt ba 10 [kr,.int .i64 (cU a.xs:Int)]):=⟨dQ HC.out.1 gm.out,fF HC.out.2.2.1 gm.out⟩
    rw[sz.out];clear ab HW ar zj al Nf y9 pn sr fx mz HX1 bl HR1 vu F8 Co F7 A8 HC ud;go_upto_region 6 with fail
    have ar:Hid (∀V,Below wa.heap.size wa V->V.heap[w.heap.size]? =some (.cells (aL xa) 37 (0,0))/\V.cell? ⟨w.heap.size,3,none⟩=some (.pointer (some ⟨ba,0,none⟩))/\V.rangeAt ba 10 [kr,.int .i64 (cU a.xs:Int)]/\V.heap[w.heap.size+1]? =some (.cells (aL cy) 37 (0,0))):=fun V hV=>⟨kW hV rv.out,dQ Dz.out.1 hV,fF Dz.out.2 hV,kW hV Kk.out⟩
    have HW:Hid (Below wa.heap.size wa wa.drew):=aY wa;refine bO (S:=(fun V=>V.heap[w.heap.size]? =some (.cells (aL xa) 37 (0,0))/\V.cell? ⟨w.heap.size,3,none⟩=some (.pointer (some ⟨ba,0,none⟩))/\V.rangeAt ba 10 [kr,.int .i64 (cU a.xs:Int)]/\V.heap[w.heap.size+1]? =some (.cells (aL cy) 37 (0,0)))) [13,14] uAu uAw (fun ab=> ?_);refine tyL 0 29 (hy:=aJ uAz 37 _ rfl w.heap.size rfl (aL xa) 37 (0,0) _ (fun w hw=>hw.1) Tryz.underlying37 rfl uCu) (h:=?_);refine tkL 1 30 (h:=?_);(try simp only[pq]);refine tkL 2 31 (h:=?_);refine tkL 3 32 (h:=?_);(try simp only[pq]);refine tkL 4 33 (h:=?_);refine tyL 5 34 (hy:=dX uAz 138 _ rfl ba 10 rfl #[kr,.int .i64 (cU a.xs:Int)] _ (fun w hw=>hw.2.2.1) Tryz.underlying138 rfl uTy) (h:=?_);(try simp only[pq]);refine tyL 6 35 (hy:=aJ uAz 37 _ rfl (w.heap.size+1) rfl (aL cy) 37 (0,0) _ (fun w hw=>hw.2.2.2) Tryz.underlying37 rfl uCu) (h:=?_);refine tkL 9 38 (h:=?_);(try simp only[pq]);refine tkO 7 (some 36) (h:=fun K hK=> ?_);go_simp;go_at_call 69;(with_reducible refine(A4.out _ uFw).mono ?_);rintro r wA ⟨dt,rfl,hd,hb⟩;have D0:=iH hd;replace HW:=iH (tW HW.out hb);clear hb hd;dsimp only;refine hK.out _ _ uAw (fun ab=> ?_);clear hK K;(try simp only[pq]);refine tkO 8 (some 37) (h:=fun K hK=> ?_);go_simp;go_at_call 68;(with_reducible refine(jm.out _ dt uFw uGz).mono ?_);rintro r wB ⟨dn,rfl,hd,hb⟩;have G0:=iH hd;have zq:=iH HW.out.size;replace HW:=iH (tW HW.out hb);clear hb hd;dsimp only;refine hK.out _ _ uAw (fun ab=> ?_);clear hK K;(try simp only[pq]);refine tkO 10 (some 39) (h:=fun K hK=> ?_);have A7:Hid (w1.heap.size<=wB.heap.size):=aI gm.out.size HW.out.size;go_simp;go_at_call 196
    (with_reducible refine(qi.out _ dn uBx uEv).mono ?_);rintro r wC ⟨y,rfl,hy,hb⟩;have Iv:=iH hy;replace HW:=iH (tW HW.out hb);clear hb hy;dsimp only;refine hK.out _ _ uAw (fun ab=> ?_);clear hK K;(try simp only[pq]);refine tkL 11 40 (h:=?_);refine tkL 12 41 (h:=?_);(try simp only[pq]);refine tkU 13 none (h:=fun K hK=> ?_);refine eC 37 _ _ rfl (w.heap.size+2) (aL y) rfl rfl 37 _ ((HW.out.block _ (by exact(gZ A6.out))).trans A6.out) aF rfl (cE y) ?_;intro w8 h8 k8;refine hK.out _ _ ?_;clear hK K;(try simp only[pq]);refine tkU 14 (some 7) (h:=fun K hK=> ?_);go_simp;refine hK.out _ _ ?_;clear hK K;(try simp only[pq]);refine bJ uAu ?_ _;clear ab;go_wp2_with fail
    have al:=HS1.out;have hl:=gm.out.size;have lh:=HW.out.size;refine aN (aR rfl _ _ (w.heap.size+2) 37 _ (0,0) _ rfl h8 Tryz.underlying37 rfl aF) rfl ⟨y,rfl,(Iv.out.imp (Kq.only k8 ?_) ?_),(HB1.out.trans ((tW gm.out HW.out).mono HB1.out.size)).trans (k8.below hO)⟩
    ·exact fun h=>by have:=A7.out;rcases h with(h|h)|h<;>omega
    ·exact Ad2
  ·have e:aDX a ii yt=(jH,4):=by unfold aDX;rw[if_neg hO,if_pos hO]
   rw[e];obtain⟨wu,C8⟩:∃wu:List Cel,wu=[]:=⟨_,rfl⟩
   obtain⟨er,Nc⟩:∃er:Int,er=4:=⟨_,rfl⟩
   have F6:∀W,Below w1.heap.size w1 W->Calls Tryz.prog 195 #[.agg rr,.int .i64 ii,.agg (aL cy)] W fun r W'=>∃c',r=.returned (.tuple #[.agg c',.int .i64 er])/\cW Kd W' c' wu/\Below W.heap.size W W':=fun W hW=>
    (aDJ W (F5.later (tW af hW)) ii cy (by rw[Af];exact Bh)).mono fun r W' ⟨h1,h3⟩=>⟨oA,by rw[Nc];exact h1,by rw[C8];exact .inl ⟨rfl,rfl⟩,h3⟩
   have F7:=iH F6;have sz:=iH Nc;clear ai aw bu al af ha km jc uf h4 e Is gu xb qp ru qh py Af dx wm tf Gy Cb el mn Dy px F5 Iw F6 Sx Bh Nc C8 A4;go_enter Tryz.func169,Tryz.ntmps169;go_upto_region 1 with fail
   clear ag;go_upto_region 3 with(first
    |(refine aW rfl 37 _ rfl w.heap.size rfl 37 _ _ _ HX1.out Tryz.underlying37 rfl aF ?_)
    |(go_at_call 32;(with_reducible refine(dh.out _).mono ?_);rintro r w2 ⟨rfl,ah⟩;have aq:=iH ah;clear ah))
   obtain⟨wg,B8⟩:∃wg,wg=w2.drew:=⟨_,rfl⟩
   have jo:Hid (Below w1.heap.size w1 wg):=by show Below _ _ _;rw[B8];exact aq.out.trans ((aY w2).mono aq.out.size)
   have Co:=iH (fun W (hW:Below wg.heap.size wg W)=>F7.out W (tW jo.out hW));have vu:Hid (∀A B,(A.cell? ⟨w.heap.size,3,none⟩=some (.pointer (some ⟨ba,0,none⟩))/\A.rangeAt ba 0 rr.toList/\A.heap[w.heap.size+1]? =some (.cells (aL cy) 37 (0,0)))->Below A.heap.size A B->(B.cell? ⟨w.heap.size,3,none⟩=some (.pointer (some ⟨ba,0,none⟩))/\B.rangeAt ba 0 rr.toList/\B.heap[w.heap.size+1]? =some (.cells (aL cy) 37 (0,0)))):=fun A B h hb=>⟨dQ h.1 hb,fF h.2.1 hb,kW hb h.2.2⟩
   have ar:Hid (∀V,Below wg.heap.size wg V->(V.cell? ⟨w.heap.size,3,none⟩=some (.pointer (some ⟨ba,0,none⟩))/\V.rangeAt ba 0 rr.toList/\V.heap[w.heap.size+1]? =some (.cells (aL cy) 37 (0,0)))):=fun V hV=>vu.out _ _ ⟨dQ HC.out.1 jo.out,fF HC.out.2.1 jo.out,kW jo.out HC.out.2.2.2⟩ hV
   have HW:Hid (Below wg.heap.size wg wg):=bB _ _;have F8:Hid (wg.cell? ⟨w.heap.size,3,none⟩=some (.pointer (some ⟨ba,0,none⟩))/\wg.rangeAt ba 0 rr.toList/\wg.heap[w.heap.size+1]? =some (.cells (aL cy) 37 (0,0))):=⟨dQ HC.out.1 jo.out,fF HC.out.2.1 jo.out,kW jo.out HC.out.2.2.2⟩
   refine bO (S:=(fun V=>V.cell? ⟨w.heap.size,3,none⟩=some (.pointer (some ⟨ba,0,none⟩))/\V.rangeAt ba 0 rr.toList/\V.heap[w.heap.size+1]? =some (.cells (aL cy) 37 (0,0)))) [10,12,13] uAu (by rw[<-B8];exact F8.out) (fun ab=> ?_);rw[<-B8]at ab ⊢;clear B8;refine tkL 0 15 (h:=?_);refine tkL 1 16 (h:=?_);(try simp only[pq]);refine tkL 2 17 (h:=?_);refine tkL 3 18 (h:=?_);(try simp only[pq]);refine tyL 4 19 (hy:=dX uAz 127 _ rfl ba 0 rfl rr _ (fun w hw=>hw.2.1) Tryz.underlying127 rfl uKy) (h:=?_);refine tkL 5 20 (h:=?_);(try simp only[pq]);refine tyL 6 21 (hy:=aJ uAz 37 _ rfl (w.heap.size+1) rfl (aL cy) 37 (0,0) _ (fun w hw=>hw.2.2) Tryz.underlying37 rfl uCu) (h:=?_);(try simp only[pq]);refine fU (rs:=[7,11]) uAu uAy (jJ.cons (o:=⟨some 22,_,_,_,_,_⟩) rfl (fun K hK=> ?_) (jJ.cons (o:=⟨some 8,_,_,_,_,_⟩) rfl (fun K hK=> ?_) jJ.nil))
   focus go_simp
   focus go_at_call 195;(with_reducible refine(Co.out _ uBx).mono ?_);rintro r wc ⟨c1,rfl,hr,hb⟩;have Cl:=iH hr;replace HW:=iH (tW HW.out hb);clear hb hr;dsimp only;refine hK.out _ _ uAw (fun ab=> ?_);clear hK K;(try simp only[pq]);refine tkL 8 14 (h:=?_);refine tkP 10 24 (h:=?_);(try simp only[pq]);refine tkL 9 23 (h:=?_);(try simp only[pq]);refine tkO 11 (some 8) (h:=fun K hK=> ?_);focus go_simp;have sr:Hid ((wc.alloc (.cells #[.int .i64 0,.int .i64 0,.slice none 0 0,.slice none 0 0] 127)).heap[wc.heap.size]? =some (.cells #[.int .i64 0,.int .i64 0,.slice none 0 0,.slice none 0 0] 127 (0,0))):=aC _ _;have ud:Hid (w1.heap.size<=wc.heap.size):=aI jo.out.size HW.out.size;replace HW:=iH (HW.out.trans ((Below.newly' wc (.cells #[.int .i64 0,.int .i64 0,.slice none 0 0,.slice none 0 0] 127)).mono HW.out.size));obtain⟨X,hX⟩:∃X,X=wc.heap.size:=⟨_,rfl⟩
   obtain⟨wx,ra⟩:∃wx,wx=wc.alloc (.cells #[.int .i64 0,.int .i64 0,.slice none 0 0,.slice none 0 0] 127):=⟨_,rfl⟩
   rw[<-ra,<-hX]at sr;rw[<-hX]at ud;rw[<-ra]at HW ⊢;rw[<-hX];have Nd:=iH (Cl.out.later (show Below wc.heap.size wc wx by rw[ra];exact Below.newly' _ _));clear ra hX;refine hK.out _ _ uAw (fun ab=> ?_);clear hK K;(try simp only[pq]);have fx:=sr;have mz:=iH Nd.out.nott;have L1:=HW;have KU:Hid (X<wx.heap.size):=(gZ sr.out)
   rotate_left
   focus go_simp
   have sr:Hid ((wg.alloc (.cells #[.int .i64 0,.int .i64 0,.slice none 0 0,.slice none 0 0] 127)).heap[wg.heap.size]? =some (.cells #[.int .i64 0,.int .i64 0,.slice none 0 0,.slice none 0 0] 127 (0,0))):=aC _ _;have ud:Hid (w1.heap.size<=wg.heap.size):=aI jo.out.size HW.out.size;replace HW:=iH (HW.out.trans ((Below.newly' wg (.cells #[.int .i64 0,.int .i64 0,.slice none 0 0,.slice none 0 0] 127)).mono HW.out.size));obtain⟨X,hX⟩:∃X,X=wg.heap.size:=⟨_,rfl⟩
   obtain⟨wx,ra⟩:∃wx,wx=wg.alloc (.cells #[.int .i64 0,.int .i64 0,.slice none 0 0,.slice none 0 0] 127):=⟨_,rfl⟩
   rw[<-ra,<-hX]at sr;rw[<-hX]at ud;rw[<-ra]at HW ⊢;rw[<-hX];clear ra hX;refine hK.out _ _ uAw (fun ab=> ?_);clear hK K;(try simp only[pq]);refine tkO 7 (some 22) (h:=fun K hK=> ?_);focus go_simp;focus go_at_call 195;(with_reducible refine(Co.out _ uBx).mono ?_);rintro r wc ⟨c1,rfl,hr,hb⟩;have Cl:=iH hr;have fx:=iH (kW hb sr.out);replace HW:=iH (tW HW.out hb);clear hb hr;dsimp only;refine hK.out _ _ uAw (fun ab=> ?_);clear hK K;(try simp only[pq]);refine tkL 8 14 (h:=?_);refine tkP 10 24 (h:=?_);(try simp only[pq]);refine tkL 9 23 (h:=?_);(try simp only[pq]);have mz:=iH Cl.out.nott
   all_goals
    refine tkU 12 none (h:=fun K hK=> ?_);refine eC 127 _ _ rfl X c1 rfl rfl 127 #[.int .i64 0,.int .i64 0,.slice none 0 0,.slice none 0 0] fx.out (by rw[cW.size mz.out];exact dM) (by rw[cW.size mz.out];rfl) (cW.one mz.out) ?_;intro wa y9 pn;refine hK.out _ _ ?_;clear hK K;(try simp only[pq]);refine tkU 13 (some 9) (h:=fun K hK=> ?_);go_simp;refine hK.out _ _ ?_;clear hK K;(try simp only[pq]);refine bJ uAu ?_ _;have zj:=ud.out;have al:=HS1.out;have Nf:=jo.out.size;have gm:Hid (Below w1.heap.size w1 wa):=(tW jo.out HW.out).trans (pn.below hO);have A6:=iH (pn.other (((tW jo.out HW.out).block _ (gZ HR1.out)).trans HR1.out) hO);rw[sz.out];clear ab HW ar zj al Nf y9 pn;go_wp2_with (first
     |(refine aV rfl 37 _ _ rfl (w.heap.size+2) #[.int .i64 0,.int .i64 0,.string ⟨#[]⟩,.pointer none] rfl rfl 37 _ A6.out aF rfl uAx ?_;intro w5 h5 k5))
    exact aN (aR rfl _ _ (w.heap.size+2) 37 _ (0,0) _ rfl h5 Tryz.underlying37 rfl aF) rfl ⟨gO,rfl,lT _ _,(tW HB1.out gm.out).trans (k5.below hO)⟩
 ·have e:aDX a ii yt=(jH,3):=by unfold aDX;rw[if_pos h4]
  rw[e];obtain⟨k1,gd⟩:∃k1,k1=a.k:=⟨_,rfl⟩
  have gn:¬k1=(4:Int):=by rw[gd];exact h4
  rw[<-gd]at dh;clear ai aw bu al af ha km jc uf h4 e gd;go_enter Tryz.func169,Tryz.ntmps169;go_upto_region 1 with fail
  clear ag;go_wp2_with (first
   |(refine aW rfl 37 _ rfl w.heap.size rfl 37 _ _ _ HX1.out Tryz.underlying37 rfl aF ?_)
   |(go_at_call 32;(with_reducible refine(dh.out _).mono ?_);rintro r w2 ⟨rfl,ah⟩;have aq:=iH ah;have gl:=iH (kW ah HR1.out);clear ah)
   |(refine aV rfl 37 _ _ rfl (w.heap.size+2) #[.int .i64 0,.int .i64 0,.string ⟨#[]⟩,.pointer none] rfl rfl 37 _ gl.out aF rfl uAx ?_;intro w5 h5 k5))
  exact Af1
end Go.Proofs.YthmfgidbcghnfaaGreatDoor
