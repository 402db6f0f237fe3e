import Derived.Test.YthmfgidbcghnfaaGreatDoorQ0
import Derived.Test.YthmfgidbcghnfaaGreatDoorQ39
import Derived.Test.YthmfgidbcghnfaaGreatDoorQ42
set_option maxRecDepth 1000000
set_option maxHeartbeats 8000000
set_option linter.unusedSimpArgs false
namespace Go.Proofs.YthmfgidbcghnfaaGreatDoor
open Go.RowKit
theorem aNb {l:List UInt8} {k:Int} {d n:Nat} {seen:List (List UInt8)} {ks:List ByteArray} {xs:List Tr} (h:tH k d n seen ks xs) (h1:1<=d) (hd:d<=64) (hn:n<=16384) (ht:kK l.length (.nd k 0 ⟨#[]⟩ ks xs)) (hl:l.length<=2000000):fQ (cP (.nd k 0 ⟨#[]⟩ ks xs)):=by
 obtain⟨⟨o1,o2⟩,o3,o4⟩:=h.ok hd;exact aGE o1 hO hO o2 (kK.mono hl _ ht)
theorem aOi {l:List UInt8} {r:Tr} {d n:Nat} (h:rT r) (hd:gJ r+(d+1)<=65) (hn:eW r<=n) (Ge:n<=16384) (ht:kK l.length r) (hl:l.length<=2000000):fQ (cP r):=aGE h.1 hO hO h.2 (kK.mono hl _ ht)
theorem yE {a:Tr} (h:fQ a):dY a=(a,0):=aIS h.1.2.1 h.1.2.2
theorem VAt.far {S:Nat->Prop} {w V:World} {a:Tr} {y:Cel} {rb:Nat} (h:VAt S w a y) (hg:w.grownBy V (some rb)) (hS:∀g,S g->g<w.heap.size/\g≠rb):VAt S V a y:=h.kq (Kq.grown hg fun X e hX=>by have:=aH e;exact(hS X hX).2 this.symm)
theorem aE1 (B s:Nat) (bb:Int) (x:ByteArray) (w:World) (rb d n:Nat) (u:Tok) (y:Cel) (hR:dG B s bb x w rb u.e n) (q:Nat×Int)
  (hv:∀W,w.grownBy W (some rb)->dG B s bb x W rb u.e n->Calls Tryz.prog 53 #[.pointer (some ⟨rb,0,none⟩),.agg (bN u),.int .i64 ((d:Int)+1)] W (Left W rb q)):
  Calls Tryz.prog 171 #[.pointer (some ⟨rb,0,none⟩),.agg (aL y),.agg (bN u),.int .i64 ((d:Int)+1)] w (Left w rb q):=by
 obtain⟨w1,ag⟩:∃w1,((w.alloc (.cells (aL y) 37)).alloc (.cells (bN u) 90)).alloc (.cells #[.int .i64 0,.int .i64 0,.string ⟨#[]⟩,.pointer none] 37)=w1:=⟨_,rfl⟩
 obtain⟨af,ai,aw,bu,al⟩:=dF ag;have eo:=(gZ hR.2.2)
 have EI:=iH hR;have HB1:=iH af;have HR1:=iH bu;have HS1:Hid (w1.heap.size=w.heap.size+3):=al;have HRL:Hid (rb<w.heap.size):=eo;have ar:Hid (∀V,w1.grownBy V (some rb)->V.heap[w.heap.size]? =some (.cells (aL y) 37 (0,0))/\V.heap[w.heap.size+1]? =some (.cells (bN u) 90 (0,0))):=fun V hV=>⟨(hV.block _ hO (fun e=>by have:=aH e;omega)).trans ai,(hV.block _ hO (fun e=>by have:=aH e;omega)).trans aw⟩
 have HW:Hid (w1.grownBy w1.drew (some rb)):=dS (aY w1) _;have O8:Hid (∀W,Below w1.heap.size w1 W->Calls Tryz.prog 53 #[.pointer (some ⟨rb,0,none⟩),.agg (bN u),.int .i64 ((d:Int)+1)] W (fun e w'=>∃E,e=.panicked [brk E]/\fR W.heap.size w' E q.2 (q.1:Int)/\W.grownBy w' (some rb))):=fun W hW=>hv W (dS (tW af hW) _) ((hR.later af).later hW)
 clear hv hR af ai aw bu al eo HR1;replace ar:Hid (∀V,Below w1.heap.size w1 V->V.heap[w.heap.size]? =some (.cells (aL y) 37 (0,0))/\V.heap[w.heap.size+1]? =some (.cells (bN u) 90 (0,0))):=fun V hV=>ar.out V (dS hV _)
 replace HW:Hid (Below w1.heap.size w1 w1.drew):=aY w1;go_enter Tryz.func171,Tryz.ntmps171;go_upto_region 1 with fail
 clear ag;refine bO (S:=(fun V=>V.heap[w.heap.size]? =some (.cells (aL y) 37 (0,0))/\V.heap[w.heap.size+1]? =some (.cells (bN u) 90 (0,0)))) [8,10,11] uAu uAw (fun ab=> ?_);obtain⟨wd,j9⟩:∃wd,wd=w1.drew:=⟨_,rfl⟩
 rw[<-j9]at HW ab ⊢;clear j9;refine tyL 0 12 (hy:=aJ uAz 37 _ rfl w.heap.size rfl (aL y) 37 (0,0) _ (fun w hw=>hw.1) Tryz.underlying37 rfl uCu) (h:=?_);refine tkL 1 13 (h:=?_);(try simp only[pq]);refine tyL 2 14 (hy:=aJ uAz 90 _ rfl (w.heap.size+1) rfl (bN u) 90 (0,0) _ (fun w hw=>hw.2) Tryz.underlying90 rfl (by exact bR)) (h:=?_);refine tkL 3 15 (h:=?_);(try simp only[pq]);refine fU (rs:=[4,9]) uAu uAy (jJ.cons (o:=⟨some 16,_,_,_,_,_⟩) rfl (fun K hK=> ?_) (jJ.cons (o:=⟨some 9,_,_,_,_,_⟩) rfl (fun K hK=> ?_) jJ.nil))
 rotate_left
 focus go_simp
 have fs:Hid ((wd.alloc (.cells #[.int .i64 0,.int .i64 0,.string ⟨#[]⟩,.pointer none] 37)).heap[wd.heap.size]? =some (.cells #[.int .i64 0,.int .i64 0,.string ⟨#[]⟩,.pointer none] 37 (0,0))):=aC _ _;have gz:Hid (w1.heap.size<=wd.heap.size):=HW.out.size;have z6:=Below.newly' wd (.cells #[.int .i64 0,.int .i64 0,.string ⟨#[]⟩,.pointer none] 37);have Bb:wd.heap.size<(wd.alloc (.cells #[.int .i64 0,.int .i64 0,.string ⟨#[]⟩,.pointer none] 37)).heap.size:=(gZ fs.out)
 replace HW:=iH (tW HW.out z6);obtain⟨Z,hZ⟩:∃Z,Z=wd.heap.size:=⟨_,rfl⟩
 obtain⟨wz,ja⟩:∃wz,wz=wd.alloc (.cells #[.int .i64 0,.int .i64 0,.string ⟨#[]⟩,.pointer none] 37):=⟨_,rfl⟩
 rw[<-ja,<-hZ]at fs;rw[<-ja,<-hZ]at Bb;rw[<-hZ]at gz;rw[<-ja]at HW ⊢;rw[<-hZ];have G8:Hid (Z<wz.heap.size):=Bb;clear ja hZ z6 Bb;refine hK.out _ _ uAw (fun ab=> ?_);clear hK K;(try simp only[pq]);refine tkO 4 (some 16) (h:=fun K hK=> ?_)
 all_goals
  go_simp
  go_at_call 53;(with_reducible refine(O8.out _ uBx).mono ?_);rintro r wv ⟨E,rfl,he,hg⟩;have HE:=iH he;have my:=iH HW.out.size;have HG:=iH hg;clear he hg;dsimp only;exact⟨rfl,E,rfl,HE.out.low (by have:=HS1.out;have:=my.out;omega),bD (dS (tW HB1.out HW.out) _) HG.out⟩
theorem aA1 (B s:Nat) (bb:Int) (x:ByteArray) (w:World) (rb d n:Nat) (u:Tok) (y:Cel) (S:Nat->Prop) (hR:dG B s bb x w rb u.e n) (r:Rd) (A0 T1:Tr) (j3:∀g,S g->g<w.heap.size/\g≠rb) (ib:VAt S w A0 y) (hA0:fQ A0) (Iy:fQ T1)
  (hv:∀W,w.grownBy W (some rb)->dG B s bb x W rb u.e n->Calls Tryz.prog 53 #[.pointer (some ⟨rb,0,none⟩),.agg (bN u),.int .i64 ((d:Int)+1)] W (fun e w'=>∃yv,e=.returned (.agg (aL yv))/\VAt (fun g=>W.heap.size<=g) w' (cP r.t) yv/\dG B s bb x w' rb r.e r.n/\W.grownBy w' (some rb)))
  (F9:fQ (cP r.t)) (D2:aBn A0 (cP r.t)=(T1,0)) (EJ:u.a<=2000000) (R:Ending->World->Prop)
  (hC:T1.xs.length≠A0.xs.length->∀W ya,VAt (fun g=>S g\/w.heap.size<=g) W T1 ya->dG B s bb x W rb r.e r.n->w.grownBy W (some rb)->R (.returned (.agg (aL ya))) W)
  (hD:T1.xs.length=A0.xs.length->∀W E,fR w.heap.size W E 6 (u.a:Int)->w.grownBy W (some rb)->R (.panicked [brk E]) W):
  Calls Tryz.prog 171 #[.pointer (some ⟨rb,0,none⟩),.agg (aL y),.agg (bN u),.int .i64 ((d:Int)+1)] w R:=by
 obtain⟨w1,ag⟩:∃w1,((w.alloc (.cells (aL y) 37)).alloc (.cells (bN u) 90)).alloc (.cells #[.int .i64 0,.int .i64 0,.string ⟨#[]⟩,.pointer none] 37)=w1:=⟨_,rfl⟩
 obtain⟨af,ai,aw,bu,al⟩:=dF ag;have eo:=(gZ hR.2.2)
 have EI:=iH hR;have HB1:=iH af;have HR1:=iH bu;have HS1:Hid (w1.heap.size=w.heap.size+3):=al;have HRL:Hid (rb<w.heap.size):=eo;have ar:Hid (∀V,w1.grownBy V (some rb)->V.heap[w.heap.size]? =some (.cells (aL y) 37 (0,0))/\V.heap[w.heap.size+1]? =some (.cells (bN u) 90 (0,0))):=fun V hV=>⟨(hV.block _ hO (fun e=>by have:=aH e;omega)).trans ai,(hV.block _ hO (fun e=>by have:=aH e;omega)).trans aw⟩
 have HW:Hid (w1.grownBy w1.drew (some rb)):=dS (aY w1) _;have O8:Hid (∀W,w1.grownBy W (some rb)->dG B s bb x W rb u.e n->Calls Tryz.prog 53 #[.pointer (some ⟨rb,0,none⟩),.agg (bN u),.int .i64 ((d:Int)+1)] W (fun e w'=>∃yv,e=.returned (.agg (aL yv))/\VAt (fun g=>W.heap.size<=g) w' (cP r.t) yv/\dG B s bb x w' rb r.e r.n/\W.grownBy w' (some rb))):=fun W hW hr=>hv W (bD (dS af _) hW) hr
 have j4:=iH j3;have Zw:Hid (∀W,w1.grownBy W (some rb)->VAt S W A0 y):=fun W hW=>ib.far (bD (dS af _) hW) j3
 have Mh:Hid (∀(P:Nat->Prop) W yv,(∀g,S g->P g)->w1.grownBy W (some rb)->VAt (fun g=>w1.heap.size<=g/\P g) W (cP r.t) yv->Ctx B W->Calls Tryz.prog 200 #[.agg (aL y),.agg (aL yv)] W (fun e w'=>∃ya,e=.returned (.tuple #[.agg (aL ya),.int .i64 0])/\VAt (fun g=>((S g\/w1.heap.size<=g)/\P g)\/W.heap.size<=g) w' T1 ya/\Below W.heap.size W w')):=fun P W yv hP hW zc hc=>by
  have h:=aSQ (S:=fun g=>(S g\/w1.heap.size<=g)/\P g) W A0 y hA0 ((Zw.out W hW).weak fun g hg=>⟨.inl hg,hP g hg⟩) (cP r.t) yv F9 (zc.weak fun g hg=>⟨.inr hg.1,hg.2⟩) hc.tab6;rw[D2]at h;exact h
 have bz:=iH (And.intro hA0 Iy);have Tb:=iH (hR.later af);have HC:=iH hC;have HD:=iH hD;have LB:=iH EJ;have Tc:=iH bu;have bl:=iH aw;clear hv hR af ai aw bu al eo HR1 j3 ib hA0 Iy F9 D2 hC hD EJ EI;go_enter Tryz.func171,Tryz.ntmps171;go_upto_region 1 with fail
 clear ag;apply tl4 (Q:=fun(Z:Nat) (wS:World) (ya NM:Cel)=>wS.heap[Z]? =some (.cells (aL ya) 37 (0,0))/\VAt (fun g=>(S g\/w1.heap.size<=g)/\g≠Z) wS T1 ya/\dG B s bb x wS rb r.e r.n/\w1.grownBy wS (some rb)/\w1.heap.size<=Z)
 ·intro pz
  have D3:Hid (dG B s bb x w1.drew rb u.e n):=Tb.out.later (aY w1);refine bO (S:=(fun V=>V.heap[w.heap.size]? =some (.cells (aL y) 37 (0,0))/\V.heap[w.heap.size+1]? =some (.cells (bN u) 90 (0,0)))) [8,10,11] uAu uAw (fun ab=> ?_);obtain⟨wd,j9⟩:∃wd,wd=w1.drew:=⟨_,rfl⟩
  rw[<-j9]at HW ab D3 ⊢;clear j9;refine tyL 0 12 (hy:=aJ uAz 37 _ rfl w.heap.size rfl (aL y) 37 (0,0) _ (fun w hw=>hw.1) Tryz.underlying37 rfl uCu) (h:=?_);refine tkL 1 13 (h:=?_);(try simp only[pq]);refine tyL 2 14 (hy:=aJ uAz 90 _ rfl (w.heap.size+1) rfl (bN u) 90 (0,0) _ (fun w hw=>hw.2) Tryz.underlying90 rfl (by exact bR)) (h:=?_);refine tkL 3 15 (h:=?_);(try simp only[pq]);refine fU (rs:=[4,9]) uAu uAy (jJ.cons (o:=⟨some 16,_,_,_,_,_⟩) rfl (fun K hK=> ?_) (jJ.cons (o:=⟨some 9,_,_,_,_,_⟩) rfl (fun K hK=> ?_) jJ.nil))
  ·go_simp
   go_at_call 53;(with_reducible refine(O8.out _ uBx D3.out).mono ?_);rintro r wv ⟨yv,rfl,zc,dm,hg⟩;have my:=iH HW.out.size;have Ao:Hid (VAt (fun g=>w1.heap.size<=g/\True) wv (cP r.t) yv):=zc.weak fun g h=>⟨aI my.out h,trivial⟩
   have ft:=iH dm;replace HW:=iH (bD HW.out hg);clear zc dm hg my;dsimp only;refine hK.out _ _ uAw (fun ab=> ?_);clear hK K;(try simp only[pq]);refine fU (rs:=[5,9]) uAu uAy (jJ.cons (o:=⟨some 17,_,_,_,_,_⟩) rfl (fun K hK=> ?_) (jJ.cons (o:=⟨some 9,_,_,_,_,_⟩) rfl (fun K hK=> ?_) jJ.nil))
   focus go_simp
   focus go_at_call 200;(with_reducible refine(Mh.out (fun _=>True) _ _ (fun _ _=>trivial) uBx Ao.out ft.out.ctx).mono ?_);rintro r wa ⟨ya,rfl,Cc,hb⟩;have my:=iH HW.out.size;have zd:Hid (VAt (fun g=>S g\/w1.heap.size<=g) wa T1 ya):=Cc.weak fun g h=>h.elim (fun h=>h.1) fun h=>.inr (aI my.out h)
   replace ft:=iH (ft.out.later hb);replace HW:=iH (bD HW.out (dS hb _));clear Cc hb my;dsimp only;refine hK.out _ _ uAw (fun ab=> ?_);clear hK K;(try simp only[pq]);refine tkL 6 11 (h:=?_);refine tkP 8 19 (h:=?_);(try simp only[pq]);refine tkL 7 18 (h:=?_);(try simp only[pq]);refine tkO 9 (some 9) (h:=fun K hK=> ?_);focus go_simp;have fs:Hid ((wa.alloc (.cells #[.int .i64 0,.int .i64 0,.string ⟨#[]⟩,.pointer none] 37)).heap[wa.heap.size]? =some (.cells #[.int .i64 0,.int .i64 0,.string ⟨#[]⟩,.pointer none] 37 (0,0))):=aC _ _;have gz:Hid (w1.heap.size<=wa.heap.size):=HW.out.size;have z6:=Below.newly' wa (.cells #[.int .i64 0,.int .i64 0,.string ⟨#[]⟩,.pointer none] 37);have Bb:wa.heap.size<(wa.alloc (.cells #[.int .i64 0,.int .i64 0,.string ⟨#[]⟩,.pointer none] 37)).heap.size:=(gZ fs.out)
   replace HW:=iH (bD HW.out (dS z6 _));replace ft:=iH (ft.out.later z6);obtain⟨Z,hZ⟩:∃Z,Z=wa.heap.size:=⟨_,rfl⟩
   replace zd:Hid (VAt (fun g=>(S g\/w1.heap.size<=g)/\g≠Z) (wa.alloc (.cells #[.int .i64 0,.int .i64 0,.string ⟨#[]⟩,.pointer none] 37)) T1 ya):=zd.out.old.imp (Kq.later z6) fun g h _=>⟨h.1,fun e=>by have h2:=h.2;omega⟩
   obtain⟨wz,ja⟩:∃wz,wz=wa.alloc (.cells #[.int .i64 0,.int .i64 0,.string ⟨#[]⟩,.pointer none] 37):=⟨_,rfl⟩
   rw[<-ja,<-hZ]at fs;rw[<-ja,<-hZ]at Bb;rw[<-hZ]at gz;rw[<-ja]at HW ft zd ⊢;rw[<-hZ];have G8:Hid (Z<wz.heap.size):=Bb;clear ja hZ z6 Bb;refine hK.out _ _ uAw (fun ab=> ?_);clear hK K
   rotate_left
   focus go_simp
   have fs:Hid ((wv.alloc (.cells #[.int .i64 0,.int .i64 0,.string ⟨#[]⟩,.pointer none] 37)).heap[wv.heap.size]? =some (.cells #[.int .i64 0,.int .i64 0,.string ⟨#[]⟩,.pointer none] 37 (0,0))):=aC _ _;have gz:Hid (w1.heap.size<=wv.heap.size):=HW.out.size;have z6:=Below.newly' wv (.cells #[.int .i64 0,.int .i64 0,.string ⟨#[]⟩,.pointer none] 37);have Bb:wv.heap.size<(wv.alloc (.cells #[.int .i64 0,.int .i64 0,.string ⟨#[]⟩,.pointer none] 37)).heap.size:=(gZ fs.out)
   replace HW:=iH (bD HW.out (dS z6 _));replace ft:=iH (ft.out.later z6);obtain⟨Z,hZ⟩:∃Z,Z=wv.heap.size:=⟨_,rfl⟩
   replace Ao:Hid (VAt (fun g=>w1.heap.size<=g/\g≠Z) (wv.alloc (.cells #[.int .i64 0,.int .i64 0,.string ⟨#[]⟩,.pointer none] 37)) (cP r.t) yv):=Ao.out.old.imp (Kq.later z6) fun g h _=>⟨h.1.1,fun e=>by have h2:=h.2;omega⟩
   obtain⟨wz,ja⟩:∃wz,wz=wv.alloc (.cells #[.int .i64 0,.int .i64 0,.string ⟨#[]⟩,.pointer none] 37):=⟨_,rfl⟩
   rw[<-ja,<-hZ]at fs;rw[<-ja,<-hZ]at Bb;rw[<-hZ]at gz;rw[<-ja]at HW ft Ao ⊢;rw[<-hZ];have G8:Hid (Z<wz.heap.size):=Bb;clear ja hZ z6 Bb;refine hK.out _ _ uAw (fun ab=> ?_);clear hK K;(try simp only[pq]);refine tkO 5 (some 17) (h:=fun K hK=> ?_);focus go_simp;focus go_at_call 200;(with_reducible refine(Mh.out (fun g=>g≠Z) _ _ (fun g hg e=>by have h1:=(j4.out g hg).1;have h2:=gz.out;have h3:=HS1.out;omega) uBx Ao.out ft.out.ctx).mono ?_);rintro r wa ⟨ya,rfl,Cc,hb⟩;have my:=iH HW.out.size;have zd:Hid (VAt (fun g=>(S g\/w1.heap.size<=g)/\g≠Z) wa T1 ya):=Cc.weak fun g h=>(by exact Aj1)
   replace fs:=iH (kW hb fs.out);replace ft:=iH (ft.out.later hb);replace HW:=iH (bD HW.out (dS hb _));clear Cc hb my;dsimp only;refine hK.out _ _ uAw (fun ab=> ?_);clear hK K;(try simp only[pq]);refine tkL 6 11 (h:=?_);refine tkP 8 19 (h:=?_);(try simp only[pq]);refine tkL 7 18 (h:=?_)
   all_goals
    exact Ab2
  ·go_simp
   have fs:Hid ((wd.alloc (.cells #[.int .i64 0,.int .i64 0,.string ⟨#[]⟩,.pointer none] 37)).heap[wd.heap.size]? =some (.cells #[.int .i64 0,.int .i64 0,.string ⟨#[]⟩,.pointer none] 37 (0,0))):=aC _ _;have gz:Hid (w1.heap.size<=wd.heap.size):=HW.out.size;have z6:=Below.newly' wd (.cells #[.int .i64 0,.int .i64 0,.string ⟨#[]⟩,.pointer none] 37);have Bb:wd.heap.size<(wd.alloc (.cells #[.int .i64 0,.int .i64 0,.string ⟨#[]⟩,.pointer none] 37)).heap.size:=(gZ fs.out)
   replace HW:=iH (bD HW.out (dS z6 _));replace D3:=iH (D3.out.later z6);obtain⟨Z,hZ⟩:∃Z,Z=wd.heap.size:=⟨_,rfl⟩
   obtain⟨wz,ja⟩:∃wz,wz=wd.alloc (.cells #[.int .i64 0,.int .i64 0,.string ⟨#[]⟩,.pointer none] 37):=⟨_,rfl⟩
   rw[<-ja,<-hZ]at fs;rw[<-ja,<-hZ]at Bb;rw[<-hZ]at gz;rw[<-ja]at HW D3 ⊢;rw[<-hZ];have G8:Hid (Z<wz.heap.size):=Bb;clear ja hZ z6 Bb;refine hK.out _ _ uAw (fun ab=> ?_);clear hK K;(try simp only[pq]);refine tkO 4 (some 16) (h:=fun K hK=> ?_);go_simp;go_at_call 53;(with_reducible refine(O8.out _ uBx D3.out).mono ?_);rintro r wv ⟨yv,rfl,zc,dm,hg⟩;have my:=iH HW.out.size;replace fs:=iH ((hg.block _ (gZ fs.out) (fun e=>by have:=aH e;have h1:=gz.out;have h2:=HRL.out;have h3:=HS1.out;omega)).trans fs.out);have Ao:Hid (VAt (fun g=>w1.heap.size<=g/\g≠Z) wv (cP r.t) yv):=zc.weak fun g h=>⟨aI my.out h,fun e=>by have h1:=G8.out;omega⟩
   have ft:=iH dm;replace HW:=iH (bD HW.out hg);clear zc dm hg my;dsimp only;refine hK.out _ _ uAw (fun ab=> ?_);clear hK K;(try simp only[pq]);refine tkO 5 (some 17) (h:=fun K hK=> ?_);go_simp;go_at_call 200;(with_reducible refine(Mh.out (fun g=>g≠Z) _ _ (fun g hg e=>by have h1:=(j4.out g hg).1;have h2:=gz.out;have h3:=HS1.out;omega) uBx Ao.out ft.out.ctx).mono ?_);rintro r wa ⟨ya,rfl,Cc,hb⟩;have my:=iH HW.out.size;have zd:Hid (VAt (fun g=>(S g\/w1.heap.size<=g)/\g≠Z) wa T1 ya):=Cc.weak fun g h=>(by exact Aj1)
   replace fs:=iH (kW hb fs.out);replace ft:=iH (ft.out.later hb);replace HW:=iH (bD HW.out (dS hb _));clear Cc hb my;dsimp only;refine hK.out _ _ uAw (fun ab=> ?_);clear hK K;(try simp only[pq]);refine tkL 6 11 (h:=?_);refine tkP 8 19 (h:=?_);(try simp only[pq]);refine tkL 7 18 (h:=?_);exact Ab2
 ·rintro Z wS ya yv ⟨hZ,hY,dm,hg,Km⟩
  have D1:=iH hZ;have zd:=iH hY;have ft:=iH dm;have Ky:=iH hg;have gz:Hid (w1.heap.size<=Z):=Km;have EK:=iH (ar.out _ hg);have Nb:=iH ((hg.block _ uBu (fun e=>by have:=aH e;have:=HRL.out;omega)).trans Tc.out);have O9:Hid (∀V,Below wS.heap.size wS V->V.heap[Z]? =some (.cells (aL ya) 37 (0,0))/\V.heap[w.heap.size]? =some (.cells (aL y) 37 (0,0))):=fun V hV=>⟨(kW hV hZ),(kW hV EK.out.1)⟩
  have Kz:=iH (fun V (hV:Below wS.heap.size wS V)=>aFh V T1 ya bz.out.2 (hY.later hV));have Qd:=iH (fun V (hV:Below wS.heap.size wS V)=>aFh V A0 y bz.out.1 ((Zw.out _ hg).later hV));have nm:Hid (w.heap.size+3<=wS.heap.size):=by show _<=_;have h1:=hg.size;have h2:=HS1.out;omega
  clear hZ hY dm hg Km HW ar O8 Mh Tb Tc Zw;have HW:Hid (Below wS.heap.size wS wS.drew):=aY wS;go_upto_region 2 with fail
  obtain⟨N1,Lj⟩:∃N1,N1=T1.xs.length:=⟨_,rfl⟩
  obtain⟨N0,EL⟩:∃N0,N0=A0.xs.length:=⟨_,rfl⟩
  rw[<-Lj]at Kz HC HD;rw[<-EL]at Qd HC HD;clear Lj EL;by_cases ce:N1=N0
  case pos=>
   have qe:((N1:Int)==(N0:Int))=true:=eK.2 hO;have vf:=iH ce;have mb:=iH (fun W=>pY 6 u.a W uAv LB.out);clear ce;refine bO (S:=(fun V=>V.heap[Z]? =some (.cells (aL ya) 37 (0,0))/\V.heap[w.heap.size]? =some (.cells (aL y) 37 (0,0)))) [] uAu uIw (fun ab=> ?_);refine tyL 0 20 (hy:=aJ uAz 37 _ rfl Z rfl (aL ya) 37 (0,0) _ (fun w hw=>hw.1) Tryz.underlying37 rfl uCu) (h:=?_);refine tyL 2 22 (hy:=aJ uAz 37 _ rfl w.heap.size rfl (aL y) 37 (0,0) _ (fun w hw=>hw.2) Tryz.underlying37 rfl uCu) (h:=?_);(try simp only[pq]);refine tkO 1 (some 21) (h:=fun K hK=> ?_);go_simp;go_at_call 37;(with_reducible refine(Kz.out _ uBx).mono ?_);rintro r w5 ⟨rfl,hb⟩;replace HW:=iH (tW HW.out hb);clear hb;dsimp only;refine hK.out _ _ uIw (fun ab=> ?_);clear hK K;(try simp only[pq]);refine tkO 3 (some 23) (h:=fun K hK=> ?_);go_simp;go_at_call 37;(with_reducible refine(Qd.out _ uBx).mono ?_);rintro r w6 ⟨rfl,hb⟩;replace HW:=iH (tW HW.out hb);clear hb;dsimp only;refine hK.out _ _ uIw (fun ab=> ?_);clear hK K;(try simp only[pq]);refine kG (i:=4) (oi:=⟨some 24,_,_,_,_,_⟩) (v:=(.bool true)) rfl uAu uAu uAu uAu (fun _ _ _ h=>h) (Or.inl ⟨by rfl,?hg9_4⟩) uCw ?rg9_4
   case hg9_4=>(intro w jy;(try dsimp only at jy);go_simp;first|done|rw[qe]|simp[qe])
   (try simp only[pq]);refine bJ uAu ?_ _;clear ab;have c1:w6.cell? ⟨w.heap.size+1,1,none⟩=some (.int .i64 (u.a:Int)):=aG (kW HW.out EK.out.2) rfl;clear qe;go_wp2_with (go_at_call 100;refine(mb.out _).mono ?_;rintro r' V2 ⟨E,rfl,he,hb⟩;have HE:=iH he;have s5:=iH hb;clear he hb)
   have h1:=HW.out.size;have h2:=nm.out;exact⟨rfl,HD.out vf.out _ _ (HE.out.low hO) (bD (dS HB1.out _) (bD Ky.out (dS (HW.out.trans (s5.out.mono h1)) _)))⟩
  have qe:((N1:Int)==(N0:Int))=false:=aE.2 hO;have vf:=iH ce;clear ce;refine bO (S:=(fun V=>V.heap[Z]? =some (.cells (aL ya) 37 (0,0))/\V.heap[w.heap.size]? =some (.cells (aL y) 37 (0,0)))) [] uAu uIw (fun ab=> ?_);refine tyL 0 20 (hy:=aJ uAz 37 _ rfl Z rfl (aL ya) 37 (0,0) _ (fun w hw=>hw.1) Tryz.underlying37 rfl uCu) (h:=?_);refine tyL 2 22 (hy:=aJ uAz 37 _ rfl w.heap.size rfl (aL y) 37 (0,0) _ (fun w hw=>hw.2) Tryz.underlying37 rfl uCu) (h:=?_);(try simp only[pq]);refine tkO 1 (some 21) (h:=fun K hK=> ?_);go_simp;go_at_call 37;(with_reducible refine(Kz.out _ uBx).mono ?_);rintro r w5 ⟨rfl,hb⟩;replace HW:=iH (tW HW.out hb);clear hb;dsimp only;refine hK.out _ _ uIw (fun ab=> ?_);clear hK K;(try simp only[pq]);refine tkO 3 (some 23) (h:=fun K hK=> ?_);go_simp;go_at_call 37;(with_reducible refine(Qd.out _ uBx).mono ?_);rintro r w6 ⟨rfl,hb⟩;replace HW:=iH (tW HW.out hb);clear hb;dsimp only;refine hK.out _ _ uIw (fun ab=> ?_);clear hK K;(try simp only[pq]);refine kG (i:=4) (oi:=⟨some 24,_,_,_,_,_⟩) (v:=(.bool false)) rfl uAu uAu uAu uAu (fun _ _ _ h=>h) (Or.inl ⟨by rfl,?hg10_4⟩) uCw ?rg10_4
  case hg10_4=>(intro w jy;(try dsimp only at jy);go_simp;first|done|rw[qe]|simp[qe])
  (try simp only[pq]);refine bJ uAu ?_ _;clear ab qe;have C6:=iH (kW HW.out D1.out);have vk:=iH (kW HW.out Nb.out);go_wp2_with (first
   |(refine aW rfl 37 _ rfl Z rfl 37 _ _ _ C6.out Tryz.underlying37 rfl aF ?_)
   |(refine aV rfl 37 _ _ rfl (w.heap.size+2) (aL ya) rfl rfl 37 _ vk.out aF rfl (cE ya) ?_;intro w9 h9 k9))
  refine aN (bE rfl _ _ (w.heap.size+2) 37 _ (0,0) _ rfl h9 Tryz.underlying37 rfl aF) rfl ?_;have al:=HS1.out;exact HC.out vf.out w9 ya (((zd.out.later HW.out).imp (Kq.only k9 fun h=>by rcases h.1 with h2|h2<;>first|(have:=(j4.out _ h2).1;omega)|omega) fun g h _=>by
   rcases h.1 with h2|h2
   ·exact .inl h2
   ·exact .inr hO)) ((ft.out.later HW.out).only k9 uHu) (nE (bD (dS HB1.out _) (bD Ky.out (dS HW.out _))) k9 hO)
theorem aN1 (B s:Nat) (bb:Int) (x:ByteArray) (f:Nat) (w:World) (rb d a n:Nat) (tk:Int) (ta te:Nat) (tn:Int) (tt:List UInt8) (y:Cel) (S:Nat->Prop) (seen:List (List UInt8)) (ks:List ByteArray) (hx:x.size<=2000000) (hV:aJW B s bb x f) (hR:dG B s bb x w rb te n) (A0:Tr) (j3:∀g,S g->g<w.heap.size/\g≠rb) (ib:VAt S w A0 y) (hA0:fQ A0)
  (yh:d<=64) (hn:n<=16384) (mo:ta<=2000000) (zb:te<=x.size) (hf:2*(x.size-te)+1<=f) (G9:tt.length<=2000000) (hu:nxR x.data.toList a=.ok ⟨tk,ta,te,tn,tt⟩) (Gi:(aDZ A0 1 0 ⟨tt.toArray⟩).2=if tt∈seen then 0 else 5)
  (dz:tt∉seen->∀r T1,iS x.data.toList f 5 d a n seen ks=.ok (r,T1)->fQ (cP r.t)/\∃T2,vI A0 1 0 ⟨tt.toArray⟩ (cP r.t)=(T2,0))
  (R:Ending->World->Prop)
  (p0:∀q y,y=.error q->iS x.data.toList f 5 d a n seen ks=y->∀E W,fR w.heap.size W E q.2 (q.1:Int)->w.grownBy W (some rb)->R (.panicked [brk E]) W)
  (qy:∀r T1,iS x.data.toList f 5 d a n seen ks=.ok (r,T1)->∀W ya,VAt (fun g=>S g\/w.heap.size<=g) W (vI A0 1 0 ⟨tt.toArray⟩ (cP r.t)).1 ya->dG B s bb x W rb r.e r.n->w.grownBy W (some rb)->R (.returned (.agg (aL ya))) W):
  Calls Tryz.prog 170 #[.pointer (some ⟨rb,0,none⟩),.agg (aL y),.agg (bN ⟨tk,ta,te,tn,tt⟩),.int .i64 ((d:Int)+1)] w R:=by
 have hl:x.data.toList.length=x.size:=cY x;obtain⟨w1,ag⟩:∃w1,((w.alloc (.cells (aL y) 37)).alloc (.cells (bN ⟨tk,ta,te,tn,tt⟩) 90)).alloc (.cells #[.int .i64 0,.int .i64 0,.string ⟨#[]⟩,.pointer none] 37)=w1:=⟨_,rfl⟩
 obtain⟨af,ai,aw,bu,al⟩:=dF ag;have eo:=(gZ hR.2.2)
 have HS1:Hid (w1.heap.size=w.heap.size+3):=al;have HRL:Hid (rb<w.heap.size):=eo;have j4:=iH j3;have HR1:=iH (hR.later af);have HB1:=iH af;have HX1:=iH ai;have bl:=iH aw;have kg:=iH bu;have p6:Hid (∀W,w1.grownBy W (some rb)->VAt S W A0 y):=fun W hW=>ib.far (bD (dS af _) hW) j3
 have c0:w1.cell? ⟨w.heap.size+1,0,none⟩=some (.int .i64 tk):=aG aw rfl;have c1:w1.cell? ⟨w.heap.size+1,1,none⟩=some (.int .i64 (ta:Int)):=aG aw rfl;have c4:w1.cell? ⟨w.heap.size+1,4,none⟩=some (.string ⟨tt.toArray⟩):=aG aw rfl;have ze:Hid (∀(q:Nat×Int) E,iS x.data.toList f 5 d a n seen ks=.error q->∀W,fR w.heap.size W E q.2 (q.1:Int)->w.grownBy W (some rb)->R (.panicked [brk E]) W):=fun q E h W=>p0 q _ rfl h E W
 have LC:=iH qy;have EM:=iH hA0;by_cases ck:tk=4
 case neg=>
  have g0:(tk==4)=false:=aE.2 ck;have ri:=iH (aCn (f:=f) (d:=d) (n:=n) (seen:=seen) (ks:=ks) hu ck);have mb:=iH (fun W=>pY 2 ta W uAv mo);clear p0 qy hA0 hV hR ib j3 af ai aw bu al eo yh hn mo zb hf G9 hu Gi dz c4 ck hx hl;go_enter Tryz.func170,Tryz.ntmps170;go_upto_region 1 with fail
  clear ag;go_wp2_with (go_at_call 100;refine(mb.out _).mono ?_;rintro r V2 ⟨E,rfl,he,hb⟩;have HE:=iH he;have s5:=iH hb;clear he hb)
  exact⟨rfl,ze.out _ _ ri.out _ (HE.out.low uBu) (dS (tW HB1.out s5.out) _)⟩
 subst ck;have lz:(⟨tt.toArray⟩:ByteArray).size<=9223372036854775800:=by show tt.toArray.size<=_;rw[bI];omega
 have Nn:Hid (∀W,Below w1.heap.size w1 W->Calls Tryz.prog 198 #[.agg (aL y),.agg #[.int .i64 1,.int .i64 0,.string ⟨tt.toArray⟩]] W fun e w'=>∃yg,e=.returned (.tuple #[.agg (aL yg),.int .i64 (if tt∈seen then 0 else 5)])/\Below W.heap.size W w'):=fun W hW=>by
  have h:=aSP W A0 y hA0 (p6.out W (dS hW _)) 1 0 ⟨tt.toArray⟩ lz;rw[Gi]at h;exact h.mono fun e w' ⟨yg,h1,_,h2⟩=>⟨yg,h1,h2⟩
 clear Gi;by_cases cs:tt∈seen
 case pos=>
  have ri:=iH (aAS (f:=f) (d:=d) (n:=n) (ks:=ks) hu rfl cs);have mb:=iH (fun W=>pY 6 ta W uAv mo);rw[if_pos cs]at Nn;clear p0 qy hA0 hV hR ib j3 af ai bu al eo yh hn mo zb hf G9 hu dz cs hx hl lz c1 aw;go_enter Tryz.func170,Tryz.ntmps170;go_upto_region 1 with fail
  clear ag;go_upto_region 5 with(first
   |(refine aV rfl 99 _ _ rfl w1.heap.size #[.int .i64 1,.int .i64 0,.string ⟨tt.toArray⟩] rfl rfl 99 _ (aC _ _) dR rfl uAx ?_;intro w3 h3 k3;have be:=iH h3;have av:Hid (Below w1.heap.size w1 w3):=(Below.newly' w1 _).trans (k3.below (aA _));clear h3 k3)
   |(refine aW rfl 37 _ rfl w.heap.size rfl 37 _ _ _ (kW av.out HX1.out) Tryz.underlying37 rfl aF ?_)
   |(refine aW rfl 99 _ rfl w1.heap.size rfl 99 _ _ _ be.out Tryz.underlying99 rfl dR ?_)
   |(go_at_call 198;(with_reducible refine(Nn.out _ av.out).mono ?_);rintro r w4 ⟨yg,rfl,hb⟩;have bw:=iH (kW hb be.out);have bg:=iH (tW av.out hb);clear hb)
   |(refine aV rfl 37 _ _ rfl w4.heap.size (aL yg) rfl rfl 37 _ (aC _ _) aF rfl (cE yg) ?_;intro w6 h6 k6;have nt:Below w4.heap.size w4 w6:=(Below.newly' w4 _).trans (k6.below (aA _));have rv:=iH (kW nt bw.out);have ek:=iH (tW bg.out nt);clear h6 k6 nt))
  obtain⟨X9,wh⟩:∃X9,X9=w1.heap.size:=⟨_,rfl⟩
  have p7:Hid (w1.heap.size<=X9):=jU wh.symm;rw[<-wh]at rv ⊢;clear wh be bw av bg c0 c4;have c1:w6.cell? ⟨w.heap.size+1,1,none⟩=some (.int .i64 (ta:Int)):=aG (kW ek.out bl.out) rfl;go_wp2_with (go_at_call 100;refine(mb.out _).mono ?_;rintro r V2 ⟨E,rfl,he,hb⟩;have HE:=iH he;have s5:=iH hb;clear he hb)
  have h6:=ek.out.size;exact⟨rfl,ze.out _ _ ri.out _ (HE.out.low uBu) (dS (HB1.out.trans ((ek.out.trans (s5.out.mono h6)).mono HB1.out.size)) _)⟩
 rw[if_neg cs]at Nn;have uz:=dz cs;have HX6:Hid (∀V,Below w1.heap.size w1 V->dG B s bb x V rb te n):=fun V hV=>HR1.out.later hV
 have fk:Hid (∀V,dG B s bb x V rb te n->Calls Tryz.prog 54 #[.pointer (some ⟨rb,0,none⟩)] V fun e w'=>match nxR x.data.toList te with
   | .ok t=>e=.returned (.agg (bN t))/\dG B s bb x w' rb t.e n/\V.grownBy w' (some rb)
   | .error q=>Left V rb q e w'):=fun V hV=>aA0 B s bb x V rb te n hV zb hx
 cases hc:nxR x.data.toList te with
 |error q=>
  have ri:=iH (aCm (f:=f) (d:=d) (n:=n) (ks:=ks) hu rfl cs hc);rw[hc]at fk;replace fk:Hid (∀V,dG B s bb x V rb te n->Calls Tryz.prog 54 #[.pointer (some ⟨rb,0,none⟩)] V fun e w'=>∃E,e=.panicked [brk E]/\fR V.heap.size w' E q.2 (q.1:Int)/\V.grownBy w' (some rb)):=fk;clear p0 qy hA0 hV hR ib j3 af ai bu al eo yh hn mo zb hf G9 hu dz uz cs hx hl lz c1 aw hc;go_enter Tryz.func170,Tryz.ntmps170;go_upto_region 1 with fail
  clear ag;go_upto_region 5 with(first
   |(refine aV rfl 99 _ _ rfl w1.heap.size #[.int .i64 1,.int .i64 0,.string ⟨tt.toArray⟩] rfl rfl 99 _ (aC _ _) dR rfl uAx ?_;intro w3 h3 k3;have be:=iH h3;have av:Hid (Below w1.heap.size w1 w3):=(Below.newly' w1 _).trans (k3.below (aA _));clear h3 k3)
   |(refine aW rfl 37 _ rfl w.heap.size rfl 37 _ _ _ (kW av.out HX1.out) Tryz.underlying37 rfl aF ?_)
   |(refine aW rfl 99 _ rfl w1.heap.size rfl 99 _ _ _ be.out Tryz.underlying99 rfl dR ?_)
   |(go_at_call 198;(with_reducible refine(Nn.out _ av.out).mono ?_);rintro r w4 ⟨yg,rfl,hb⟩;have bw:=iH (kW hb be.out);have bg:=iH (tW av.out hb);clear hb)
   |(refine aV rfl 37 _ _ rfl w4.heap.size (aL yg) rfl rfl 37 _ (aC _ _) aF rfl (cE yg) ?_;intro w6 h6 k6;have nt:Below w4.heap.size w4 w6:=(Below.newly' w4 _).trans (k6.below (aA _));have rv:=iH (kW nt bw.out);have ek:=iH (tW bg.out nt);clear h6 k6 nt))
  obtain⟨X9,wh⟩:∃X9,X9=w1.heap.size:=⟨_,rfl⟩
  have p7:Hid (w1.heap.size<=X9):=jU wh.symm;rw[<-wh]at rv ⊢;clear wh be bw av bg c0 c4;go_wp2_with (go_at_call 54;(with_reducible refine(fk.out _ (HX6.out _ ek.out)).mono ?_);rintro r V2 ⟨E,rfl,he,hg⟩;have HE:=iH he;have K0:=iH hg;clear he hg)
  have h6:=ek.out.size;exact⟨rfl,ze.out _ _ ri.out _ (HE.out.low uBu) (bD (dS (tW HB1.out ek.out) _) K0.out)⟩
 |ok c=>
  rw[hc]at fk;replace fk:Hid (∀V,dG B s bb x V rb te n->Calls Tryz.prog 54 #[.pointer (some ⟨rb,0,none⟩)] V fun e w'=>e=.returned (.agg (bN c))/\dG B s bb x w' rb c.e n/\V.grownBy w' (some rb)):=fk;obtain⟨p1,p2,p3⟩:=jP (l:=x.data.toList) hO hc;cases hsg:isS c 58 with
  |false=>
   have ri:=iH (aCl (f:=f) (d:=d) (n:=n) (ks:=ks) hu rfl cs hc hsg);have Iz:=iH (fun W=>aB5 c 58 W hsg hO);clear p0 qy hA0 hV hR ib j3 af ai bu al eo yh hn mo zb hf G9 hu dz uz cs hx hl lz c1 aw hc p1 p2 p3;go_enter Tryz.func170,Tryz.ntmps170;go_upto_region 1 with fail
   clear ag;go_upto_region 5 with(first
    |(refine aV rfl 99 _ _ rfl w1.heap.size #[.int .i64 1,.int .i64 0,.string ⟨tt.toArray⟩] rfl rfl 99 _ (aC _ _) dR rfl uAx ?_;intro w3 h3 k3;have be:=iH h3;have av:Hid (Below w1.heap.size w1 w3):=(Below.newly' w1 _).trans (k3.below (aA _));clear h3 k3)
    |(refine aW rfl 37 _ rfl w.heap.size rfl 37 _ _ _ (kW av.out HX1.out) Tryz.underlying37 rfl aF ?_)
    |(refine aW rfl 99 _ rfl w1.heap.size rfl 99 _ _ _ be.out Tryz.underlying99 rfl dR ?_)
    |(go_at_call 198;(with_reducible refine(Nn.out _ av.out).mono ?_);rintro r w4 ⟨yg,rfl,hb⟩;have bw:=iH (kW hb be.out);have bg:=iH (tW av.out hb);clear hb)
    |(refine aV rfl 37 _ _ rfl w4.heap.size (aL yg) rfl rfl 37 _ (aC _ _) aF rfl (cE yg) ?_;intro w6 h6 k6;have nt:Below w4.heap.size w4 w6:=(Below.newly' w4 _).trans (k6.below (aA _));have rv:=iH (kW nt bw.out);have ek:=iH (tW bg.out nt);clear h6 k6 nt))
   obtain⟨X9,wh⟩:∃X9,X9=w1.heap.size:=⟨_,rfl⟩
   have p7:Hid (w1.heap.size<=X9):=jU wh.symm;rw[<-wh]at rv ⊢;clear wh be bw av bg c0 c4;go_wp2_with (first
    |(go_at_call 54;(with_reducible refine(fk.out _ (HX6.out _ ek.out)).mono ?_);rintro r V2 ⟨rfl,dm,hg⟩;have K0:=iH hg;clear dm hg)
    |(go_at_call 137;(with_reducible refine(Iz.out _).mono ?_);rintro r V3 ⟨E,rfl,he,hb⟩;have HE:=iH he;have fh:=iH hb;clear he hb))
   have h6:=ek.out.size;have h7:=K0.out.size;exact⟨rfl,ze.out _ _ ri.out _ (HE.out.low uBu) (bD (bD (dS (tW HB1.out ek.out) _) K0.out) (dS fh.out _))⟩
  |true=>
   have mj:=aEq (f:=f) (d:=d) (n:=n) (ks:=ks) hu rfl cs hc hsg;have Iz:=iH (fun W=>aDa c 58 W hsg);have Td:∀V,dG B s bb x V rb c.e n->Calls Tryz.prog 54 #[.pointer (some ⟨rb,0,none⟩)] V fun e w'=>match nxR x.data.toList c.e with
     | .ok t=>e=.returned (.agg (bN t))/\dG B s bb x w' rb t.e n/\V.grownBy w' (some rb)
     | .error q=>Left V rb q e w':=fun V hV=>aA0 B s bb x V rb c.e n hV hO hx
   have Bl:c.e<=x.size:=by omega
   have Vr:2*(x.size-c.e)+1<=f:=by omega
   clear p0 qy hR ib j3 af ai bu al eo mo zb hf G9 hu dz cs hx hl c1 aw hc p1 p2 p3;go_enter Tryz.func170,Tryz.ntmps170;go_upto_region 1 with fail
   clear ag;go_upto_region 5 with(first
    |(refine aV rfl 99 _ _ rfl w1.heap.size #[.int .i64 1,.int .i64 0,.string ⟨tt.toArray⟩] rfl rfl 99 _ (aC _ _) dR rfl uAx ?_;intro w3 h3 k3;have be:=iH h3;have av:Hid (Below w1.heap.size w1 w3):=(Below.newly' w1 _).trans (k3.below (aA _));clear h3 k3)
    |(refine aW rfl 37 _ rfl w.heap.size rfl 37 _ _ _ (kW av.out HX1.out) Tryz.underlying37 rfl aF ?_)
    |(refine aW rfl 99 _ rfl w1.heap.size rfl 99 _ _ _ be.out Tryz.underlying99 rfl dR ?_)
    |(go_at_call 198;(with_reducible refine(Nn.out _ av.out).mono ?_);rintro r w4 ⟨yg,rfl,hb⟩;have bw:=iH (kW hb be.out);have bg:=iH (tW av.out hb);clear hb)
    |(refine aV rfl 37 _ _ rfl w4.heap.size (aL yg) rfl rfl 37 _ (aC _ _) aF rfl (cE yg) ?_;intro w6 h6 k6;have nt:Below w4.heap.size w4 w6:=(Below.newly' w4 _).trans (k6.below (aA _));have rv:=iH (kW nt bw.out);have ek:=iH (tW bg.out nt);clear h6 k6 nt))
   obtain⟨X9,wh⟩:∃X9,X9=w1.heap.size:=⟨_,rfl⟩
   have p7:Hid (w1.heap.size<=X9):=jU wh.symm;rw[<-wh]at rv ⊢;clear wh be bw av bg c0 c4;go_upto_region 8 with(first
    |(go_at_call 54;(with_reducible refine(fk.out _ (HX6.out _ ek.out)).mono ?_);rintro r V2 ⟨rfl,dm,hg⟩;have vm:=iH dm;have K0:=iH hg;clear dm hg)
    |(go_at_call 137;(with_reducible refine(Iz.out _).mono ?_);rintro r V3 ⟨rfl,hb⟩;have fh:=iH hb;clear hb))
   have jl:Hid (w.grownBy V3 (some rb)):=bD (bD (dS (tW HB1.out ek.out) _) K0.out) (dS fh.out _);have oy:Hid (w1.heap.size<=V3.heap.size/\w.heap.size+3<=V3.heap.size):=by show _/\_;have h1:=ek.out.size;have h2:=K0.out.size;have h3:=fh.out.size;have h4:=HS1.out;exact⟨by omega,by omega⟩
   have No:w6.grownBy V3 (some rb):=bD K0.out (dS fh.out _);have Np:Hid (w1.grownBy V3 (some rb)):=bD (dS ek.out _) No;have ar:Hid (∀V,V3.grownBy V (some rb)->V.heap[w.heap.size]? =some (.cells (aL y) 37 (0,0))/\V.heap[X9]? =some (.cells #[.int .i64 1,.int .i64 0,.string ⟨tt.toArray⟩] 99 (0,0))):=fun V hV=>⟨((bD Np.out hV).block _ uBu (fun e=>by have:=aH e;have:=HRL.out;omega)).trans HX1.out,((bD No hV).block _ (gZ rv.out) (fun e=>by have:=aH e;have:=HRL.out;have:=p7.out;have:=HS1.out;omega)).trans rv.out⟩
   have D1:Hid (∀V,V3.grownBy V (some rb)->V.heap[w.heap.size+2]? =some (.cells #[.int .i64 0,.int .i64 0,.string ⟨#[]⟩,.pointer none] 37 (0,0))):=fun V hV=>((bD Np.out hV).block _ uBu (fun e=>by have:=aH e;have:=HRL.out;omega)).trans kg.out
   have ft:=iH ((vm.out.later fh.out).later (aY V3));have HW:Hid (V3.grownBy V3.drew (some rb)):=dS (aY V3) _;clear No Iz fk Nn;cases h2:nxR x.data.toList c.e with
   |error q=>
    have o8:Hid (∀V,V3.grownBy V (some rb)->dG B s bb x V rb c.e n->Calls Tryz.prog 54 #[.pointer (some ⟨rb,0,none⟩)] V fun e w'=>∃E,e=.panicked [brk E]/\fR V.heap.size w' E q.2 (q.1:Int)/\V.grownBy w' (some rb)):=fun V _ hV=>by
     have h:=Td V hV;rw[h2]at h;exact h
    rw[aKg hO h2]at mj;have ri:=iH mj;clear mj Td h2 hV hA0 uz yh hn Bl Vr lz;refine bO (S:=(fun V=>V.heap[w.heap.size]? =some (.cells (aL y) 37 (0,0))/\V.heap[X9]? =some (.cells #[.int .i64 1,.int .i64 0,.string ⟨tt.toArray⟩] 99 (0,0)))) [10,11] uAu uAw (fun ab=> ?_);refine tyL 0 36 (hy:=aJ uAz 37 _ rfl w.heap.size rfl (aL y) 37 (0,0) _ (fun w hw=>hw.1) Tryz.underlying37 rfl uCu) (h:=?_);refine tyL 1 37 (hy:=aJ uAz 99 _ rfl X9 rfl #[.int .i64 1,.int .i64 0,.string ⟨tt.toArray⟩] 99 (0,0) _ (fun w hw=>hw.2) Tryz.underlying99 rfl (by exact dR)) (h:=?_);(try simp only[pq]);refine tkL 2 38 (h:=?_);refine tkL 3 39 (h:=?_);(try simp only[pq]);refine tkL 5 41 (h:=?_);(try simp only[pq]);refine tkO 4 (some 40) (h:=fun K hK=> ?_);go_simp;go_at_call 54;(with_reducible refine(o8.out _ uBx ft.out).mono ?_);rintro r wn ⟨E,rfl,he,hg⟩;have HE:=iH he;have my:=iH HW.out.size;replace HW:=iH (bD HW.out hg);clear he hg;dsimp only;exact⟨rfl,ze.out _ _ ri.out _ (HE.out.low (by have:=my.out;have:=oy.out;omega)) (bD jl.out HW.out)⟩
   |ok t2=>
    have o8:Hid (∀V,V3.grownBy V (some rb)->dG B s bb x V rb c.e n->Calls Tryz.prog 54 #[.pointer (some ⟨rb,0,none⟩)] V fun e w'=>e=.returned (.agg (bN t2))/\dG B s bb x w' rb t2.e n/\V.grownBy w' (some rb)):=fun V _ hV=>by
     have h:=Td V hV;rw[h2]at h;exact h
    have jh:∀V,dG B s bb x V rb t2.e n->Calls Tryz.prog 53 #[.pointer (some ⟨rb,0,none⟩),.agg (bN t2),.int .i64 ((d:Int)+1)] V (aF4 B s bb x (fun _=>False) V rb (rdV x.data.toList f (d+1) c.e n)):=fun V Zd=>hV V rb (d+1) c.e n t2 Zd hO hO hn Bl h2 Vr
    cases h3:rdV x.data.toList f (d+1) c.e n with
    |error q=>
     rw[h3]at mj jh;have ri:=iH mj;have j6:Hid (∀V,V3.grownBy V (some rb)->dG B s bb x V rb t2.e n->Calls Tryz.prog 53 #[.pointer (some ⟨rb,0,none⟩),.agg (bN t2),.int .i64 ((d:Int)+1)] V fun e w'=>∃E,e=.panicked [brk E]/\fR V.heap.size w' E q.2 (q.1:Int)/\V.grownBy w' (some rb)):=fun V _ hV=>jh V hV
     clear mj Td h2 hV hA0 uz yh hn Bl Vr jh h3 lz;refine bO (S:=(fun V=>V.heap[w.heap.size]? =some (.cells (aL y) 37 (0,0))/\V.heap[X9]? =some (.cells #[.int .i64 1,.int .i64 0,.string ⟨tt.toArray⟩] 99 (0,0)))) [10,11] uAu uAw (fun ab=> ?_);refine tyL 0 36 (hy:=aJ uAz 37 _ rfl w.heap.size rfl (aL y) 37 (0,0) _ (fun w hw=>hw.1) Tryz.underlying37 rfl uCu) (h:=?_);refine tyL 1 37 (hy:=aJ uAz 99 _ rfl X9 rfl #[.int .i64 1,.int .i64 0,.string ⟨tt.toArray⟩] 99 (0,0) _ (fun w hw=>hw.2) Tryz.underlying99 rfl (by exact dR)) (h:=?_);(try simp only[pq]);refine tkL 2 38 (h:=?_);refine tkL 3 39 (h:=?_);(try simp only[pq]);refine tkL 5 41 (h:=?_);(try simp only[pq]);refine tkO 4 (some 40) (h:=fun K hK=> ?_);go_simp;go_at_call 54;(with_reducible refine(o8.out _ uBx ft.out).mono ?_);rintro r wn ⟨rfl,dm,hg⟩;have gl:=iH dm;replace HW:=iH (bD HW.out hg);clear dm hg;dsimp only;refine hK.out _ _ uAw (fun ab=> ?_);clear hK K;(try simp only[pq]);refine tkO 6 (some 42) (h:=fun K hK=> ?_);go_simp;go_at_call 53;(with_reducible refine(j6.out _ uBx gl.out).mono ?_);rintro r wv ⟨E,rfl,he,hg⟩;have HE:=iH he;have my:=iH HW.out.size;replace HW:=iH (bD HW.out hg);clear he hg;dsimp only;exact⟨rfl,ze.out _ _ ri.out _ (HE.out.low (by have:=my.out;have:=oy.out;omega)) (bD jl.out HW.out)⟩
    |ok r=>
     rw[h3]at mj jh;obtain⟨F9,T2,df⟩:=uz r _ mj;have Nq:=LC.out r _ mj;rw[df]at Nq;have Zx:=iH Nq;have j6:Hid (∀V,V3.grownBy V (some rb)->dG B s bb x V rb t2.e n->Calls Tryz.prog 53 #[.pointer (some ⟨rb,0,none⟩),.agg (bN t2),.int .i64 ((d:Int)+1)] V fun e w'=>∃yv,e=.returned (.agg (aL yv))/\VAt (fun g=>V.heap.size<=g) w' (cP r.t) yv/\dG B s bb x w' rb r.e r.n/\V.grownBy w' (some rb)):=fun V _ hV=>(jh V hV).mono fun e w' ⟨yv,h1,h2,h3,h4⟩=>⟨yv,h1,h2.weak fun g h=>h.elim False.elim id,h3,h4⟩
     have ng:Hid (∀W yv,V3.grownBy W (some rb)->VAt (fun g=>S g\/w1.heap.size<=g) W (cP r.t) yv->Ctx B W->Calls Tryz.prog 199 #[.agg (aL y),.agg #[.int .i64 1,.int .i64 0,.string ⟨tt.toArray⟩],.agg (aL yv)] W fun e w'=>∃ya,e=.returned (.tuple #[.agg (aL ya),.int .i64 0])/\VAt (fun g=>(S g\/w1.heap.size<=g)\/W.heap.size<=g) w' T2 ya/\Below W.heap.size W w'):=fun W yv hW zc hc=>by
      have h:=aSN (S:=fun g=>S g\/w1.heap.size<=g) W A0 y hA0 ((p6.out W (bD Np.out hW)).weak fun g hg=>.inl hg) 1 0 ⟨tt.toArray⟩ lz (cP r.t) yv F9 zc hc.tab6;rw[df]at h;exact h
     clear mj Td h2 hV hA0 uz yh hn Bl Vr jh h3 F9 df Nq lz;refine bO (S:=(fun V=>V.heap[w.heap.size]? =some (.cells (aL y) 37 (0,0))/\V.heap[X9]? =some (.cells #[.int .i64 1,.int .i64 0,.string ⟨tt.toArray⟩] 99 (0,0)))) [10,11] uAu uAw (fun ab=> ?_);refine tyL 0 36 (hy:=aJ uAz 37 _ rfl w.heap.size rfl (aL y) 37 (0,0) _ (fun w hw=>hw.1) Tryz.underlying37 rfl uCu) (h:=?_);refine tyL 1 37 (hy:=aJ uAz 99 _ rfl X9 rfl #[.int .i64 1,.int .i64 0,.string ⟨tt.toArray⟩] 99 (0,0) _ (fun w hw=>hw.2) Tryz.underlying99 rfl (by exact dR)) (h:=?_);(try simp only[pq]);refine tkL 2 38 (h:=?_);refine tkL 3 39 (h:=?_);(try simp only[pq]);refine tkL 5 41 (h:=?_);(try simp only[pq]);refine tkO 4 (some 40) (h:=fun K hK=> ?_);go_simp;go_at_call 54;(with_reducible refine(o8.out _ uBx ft.out).mono ?_);rintro r wn ⟨rfl,dm,hg⟩;have gl:=iH dm;replace HW:=iH (bD HW.out hg);clear dm hg;dsimp only;refine hK.out _ _ uAw (fun ab=> ?_);clear hK K;(try simp only[pq]);refine tkO 6 (some 42) (h:=fun K hK=> ?_);go_simp;go_at_call 53;(with_reducible refine(j6.out _ uBx gl.out).mono ?_);rintro r wv ⟨yv,rfl,zc,dm,hg⟩;have Ao:=iH (zc.weak (S':=fun g=>S g\/w1.heap.size<=g) fun g h=>.inr uQv);have ma:=iH dm;replace HW:=iH (bD HW.out hg);clear zc dm hg;dsimp only;refine hK.out _ _ uAw (fun ab=> ?_);clear hK K;(try simp only[pq]);refine tkO 7 (some 43) (h:=fun K hK=> ?_);go_simp;go_at_call 199;(with_reducible refine(ng.out _ _ uBx Ao.out ma.out.ctx).mono ?_);rintro r wa ⟨ya,rfl,Cc,hb⟩;have zd:=iH (Cc.weak (S':=fun g=>S g\/w1.heap.size<=g) fun g h=>by
      rcases h with h|h
      ·exact h
      ·exact .inr uQv)
     replace ma:=iH (ma.out.later hb);replace HW:=iH (bD HW.out (dS hb _));clear Cc hb;dsimp only;refine hK.out _ _ uAw (fun ab=> ?_);clear hK K;(try simp only[pq]);refine tkL 8 35 (h:=?_);refine tkP 10 45 (h:=?_);(try simp only[pq]);refine tkL 9 44 (h:=?_);(try simp only[pq]);refine tkU 11 none (h:=fun K hK=> ?_);refine eC 37 _ _ rfl w.heap.size (aL ya) rfl rfl 37 _ (ar.out _ HW.out).1 aF rfl (cE ya) ?_;intro wS hS kS;refine hK.out _ _ ?_;clear hK K;(try simp only[pq]);refine bJ uAu ?_ _;clear ab;have Gz:=iH (kS.other (D1.out _ HW.out) hO);have Nr:=iH kS;have Zy:=iH hS;have Ns:=iH (zd.out.kq (Kq.only kS fun h=>by rcases h with h|h<;>first|(have:=(j4.out _ h).1;omega)|(have:=HS1.out;omega)));have Dc:=iH (ma.out.only kS HRL.out);clear hS kS;go_wp2_with (first
      |(refine aW rfl 37 _ rfl w.heap.size rfl 37 _ _ _ Zy.out Tryz.underlying37 rfl aF ?_)
      |(refine aV rfl 37 _ _ rfl (w.heap.size+2) (aL ya) rfl rfl 37 _ Gz.out aF rfl (cE ya) ?_;intro w9 h9 k9))
     refine aN (bE rfl _ _ (w.heap.size+2) 37 _ (0,0) _ rfl h9 Tryz.underlying37 rfl aF) rfl ?_;have al:=HS1.out;exact Zx.out w9 ya (Ns.out.imp (Kq.only k9 fun h=>by rcases h with h|h<;>first|(have:=(j4.out _ h).1;omega)|omega) fun g h _=>by
      rcases h with h|h
      ·exact .inl h
      ·exact .inr hO) (Dc.out.only k9 uHu) (nE (nE (bD jl.out HW.out) Nr.out (aA _)) k9 hO)
end Go.Proofs.YthmfgidbcghnfaaGreatDoor
