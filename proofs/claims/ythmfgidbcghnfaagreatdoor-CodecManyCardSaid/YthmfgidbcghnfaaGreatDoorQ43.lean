import Derived.Test.YthmfgidbcghnfaaGreatDoorQ0
import Derived.Test.YthmfgidbcghnfaaGreatDoorQ40
import Derived.Test.YthmfgidbcghnfaaGreatDoorQ42
set_option maxRecDepth 1000000
set_option maxHeartbeats 8000000
set_option linter.unusedSimpArgs false
namespace Go.Proofs.YthmfgidbcghnfaaGreatDoor
open Go.RowKit
theorem aNH {W:World} {k i:Int} {t:ByteArray} (hk:InR k) (hi:InR i) (ht:t.size<=maxLen):TrV W (.nd k i t [] []) (.agg (trC k i t (.slice none 0 0) (.slice none 0 0))):=by
 rw[TrV];exact⟨_,_,rfl,ht,hk,hi,⟨none,0,0,0,rfl,(fun h=>absurd h uAy),(fun j h=>absurd h uAy),aS _⟩,none,0,0,0,rfl,(fun h=>absurd h uAy),aS _,by rw[TrL];trivial⟩
theorem aIo (B s:Nat) (bb:Int) (x:ByteArray) (w:World) (rb d n:Nat) (t:Tok) (hR:dG B s bb x w rb t.e n) (mo:t.a<=2000000) (c:Array Value) (bq:c.all (·.oneCell')=true) (nf:c.size=5)
  (tz:∀W,Calls Tryz.prog 99 #[.agg (bN t)] W fun e w'=>e=.returned (.tuple #[.agg c,.bool false])/\Below W.heap.size W w'):
  Calls Tryz.prog 53 #[.pointer (some ⟨rb,0,none⟩),.agg (bN t),.int .i64 (d:Int)] w (Left w rb (t.a,2)):=by
 have mb:=iH (fun W=>pY 2 t.a W uAv mo);clear mo;obtain⟨w1,ag⟩:∃w1,(w.alloc (.cells (bN t) 90)).alloc (.cells #[.int .i64 0,.int .i64 0,.string ⟨#[]⟩,.pointer none] 37)=w1:=⟨_,rfl⟩
 obtain⟨af,ai,bu,al⟩:=fL ag;obtain⟨s0,s4,dm⟩:=hR;have eo:=(gZ dm)
 have HX1:=iH ai;have HR1:=iH bu;have HRB1:=iH ((af.block _ eo).trans dm);have HB1:=iH af;have HS1:=iH al;have HRL:=iH eo;have Di:=iH s0;have Kw:=iH s4;have xy:Hid (∀W,Calls Tryz.prog 99 #[.agg (bN t)] W fun e w'=>e=.returned (.tuple #[.agg c,.bool false])/\Below W.heap.size W w'):=tz;clear s0 s4 dm af ai bu al eo tz;go_enter Tryz.func53,Tryz.ntmps53;go_upto_region 1 with fail
 clear ag;go_upto_region 2 with(first
  |(refine aW rfl 90 _ rfl w.heap.size rfl 90 _ _ _ HX1.out Tryz.underlying90 rfl bR ?_)
  |(go_at_call 99;refine(xy.out _).mono ?_;rintro r V ⟨rfl,hb⟩;have fh:=iH hb;clear hb)
  |(refine aV rfl 28 _ _ rfl V.heap.size c rfl rfl 28 _ (aC _ _) uPu nf.symm bq ?_;intro w2 h2 k2))
 have ah:Below w1.heap.size w1 w2:=fh.out.trans (((Below.newly' V _).trans (k2.below (aA _))).mono fh.out.size);obtain⟨X7,Ba⟩:∃X7,X7=V.heap.size:=⟨_,rfl⟩
 have zz:=iH h2;rw[<-Ba]at zz ⊢;have Vp:Hid (w1.heap.size<=X7/\X7<w2.heap.size):=⟨by rw[Ba];exact fh.out.size,(gZ zz.out)⟩
 have aq:=iH ah;have HX2:=iH (kW ah HX1.out);have gl:=iH (kW ah HR1.out);have js:=iH (kW ah HRB1.out);clear h2 k2 ah Ba fh HX1 HR1 HRB1 xy bq;have c1:w2.cell? ⟨w.heap.size,1,none⟩=some (.int .i64 (t.a:Int)):=aG HX2.out rfl;have c4:w2.cell? ⟨rb,4,none⟩=some (.int .i64 (n:Int)):=aG js.out rfl;clear c4;go_wp2_with (go_at_call 100;refine(mb.out _).mono ?_;rintro r V2 ⟨E,rfl,he,hb⟩;have HE:=iH he;have s5:=iH hb;clear he hb)
 have al:=HS1.out;have ah:=aq.out.size;exact⟨rfl,_,rfl,HE.out.low hO,dS (HB1.out.trans ((aq.out.trans (s5.out.mono ah)).mono HB1.out.size)) _⟩
theorem aIq (B s:Nat) (bb:Int) (x:ByteArray) (w:World) (rb d n:Nat) (t:Tok) (hR:dG B s bb x w rb t.e n) (mo:t.a<=2000000) (c:Array Value) (bq:c.all (·.oneCell')=true) (nf:c.size=5)
  (tz:∀W,Calls Tryz.prog 99 #[.agg (bN t)] W fun e w'=>e=.returned (.tuple #[.agg c,.bool true])/\Below W.heap.size W w') (hd:64<d):
  Calls Tryz.prog 53 #[.pointer (some ⟨rb,0,none⟩),.agg (bN t),.int .i64 (d:Int)] w (Left w rb (t.a,7)):=by
 have mb:=iH (fun W=>pY 7 t.a W uAv mo);clear mo;obtain⟨w1,ag⟩:∃w1,(w.alloc (.cells (bN t) 90)).alloc (.cells #[.int .i64 0,.int .i64 0,.string ⟨#[]⟩,.pointer none] 37)=w1:=⟨_,rfl⟩
 obtain⟨af,ai,bu,al⟩:=fL ag;obtain⟨s0,s4,dm⟩:=hR;have eo:=(gZ dm)
 have HX1:=iH ai;have HR1:=iH bu;have HRB1:=iH ((af.block _ eo).trans dm);have HB1:=iH af;have HS1:=iH al;have HRL:=iH eo;have Di:=iH s0;have Kw:=iH s4;have xy:Hid (∀W,Calls Tryz.prog 99 #[.agg (bN t)] W fun e w'=>e=.returned (.tuple #[.agg c,.bool true])/\Below W.heap.size W w'):=tz;clear s0 s4 dm af ai bu al eo tz;go_enter Tryz.func53,Tryz.ntmps53;go_upto_region 1 with fail
 clear ag;go_upto_region 2 with(first
  |(refine aW rfl 90 _ rfl w.heap.size rfl 90 _ _ _ HX1.out Tryz.underlying90 rfl bR ?_)
  |(go_at_call 99;refine(xy.out _).mono ?_;rintro r V ⟨rfl,hb⟩;have fh:=iH hb;clear hb)
  |(refine aV rfl 28 _ _ rfl V.heap.size c rfl rfl 28 _ (aC _ _) uPu nf.symm bq ?_;intro w2 h2 k2))
 have ah:Below w1.heap.size w1 w2:=fh.out.trans (((Below.newly' V _).trans (k2.below (aA _))).mono fh.out.size);obtain⟨X7,Ba⟩:∃X7,X7=V.heap.size:=⟨_,rfl⟩
 have zz:=iH h2;rw[<-Ba]at zz ⊢;have Vp:Hid (w1.heap.size<=X7/\X7<w2.heap.size):=⟨by rw[Ba];exact fh.out.size,(gZ zz.out)⟩
 have aq:=iH ah;have HX2:=iH (kW ah HX1.out);have gl:=iH (kW ah HR1.out);have js:=iH (kW ah HRB1.out);clear h2 k2 ah Ba fh HX1 HR1 HRB1 xy bq;have c1:w2.cell? ⟨w.heap.size,1,none⟩=some (.int .i64 (t.a:Int)):=aG HX2.out rfl;have c4:w2.cell? ⟨rb,4,none⟩=some (.int .i64 (n:Int)):=aG js.out rfl;have Zt:(64:Int)<(d:Int):=by omega
 clear c4 hd;go_wp2_with (go_at_call 100;refine(mb.out _).mono ?_;rintro r V2 ⟨E,rfl,he,hb⟩;have HE:=iH he;have s5:=iH hb;clear he hb)
 have al:=HS1.out;have ah:=aq.out.size;exact⟨rfl,_,rfl,HE.out.low hO,dS (HB1.out.trans ((aq.out.trans (s5.out.mono ah)).mono HB1.out.size)) _⟩
theorem aIp (B s:Nat) (bb:Int) (x:ByteArray) (w:World) (rb d n:Nat) (t:Tok) (hR:dG B s bb x w rb t.e n) (mo:t.a<=2000000) (c:Array Value) (bq:c.all (·.oneCell')=true) (nf:c.size=5)
  (tz:∀W,Calls Tryz.prog 99 #[.agg (bN t)] W fun e w'=>e=.returned (.tuple #[.agg c,.bool true])/\Below W.heap.size W w') (hd:d<=64) (hn:n=16384):
  Calls Tryz.prog 53 #[.pointer (some ⟨rb,0,none⟩),.agg (bN t),.int .i64 (d:Int)] w (Left w rb (t.a,8)):=by
 have mb:=iH (fun W=>pY 8 t.a W uAv mo);clear mo;obtain⟨w1,ag⟩:∃w1,(w.alloc (.cells (bN t) 90)).alloc (.cells #[.int .i64 0,.int .i64 0,.string ⟨#[]⟩,.pointer none] 37)=w1:=⟨_,rfl⟩
 obtain⟨af,ai,bu,al⟩:=fL ag;obtain⟨s0,s4,dm⟩:=hR;have eo:=(gZ dm)
 have HX1:=iH ai;have HR1:=iH bu;have HRB1:=iH ((af.block _ eo).trans dm);have HB1:=iH af;have HS1:=iH al;have HRL:=iH eo;have Di:=iH s0;have Kw:=iH s4;have xy:Hid (∀W,Calls Tryz.prog 99 #[.agg (bN t)] W fun e w'=>e=.returned (.tuple #[.agg c,.bool true])/\Below W.heap.size W w'):=tz;clear s0 s4 dm af ai bu al eo tz;go_enter Tryz.func53,Tryz.ntmps53;go_upto_region 1 with fail
 clear ag;go_upto_region 2 with(first
  |(refine aW rfl 90 _ rfl w.heap.size rfl 90 _ _ _ HX1.out Tryz.underlying90 rfl bR ?_)
  |(go_at_call 99;refine(xy.out _).mono ?_;rintro r V ⟨rfl,hb⟩;have fh:=iH hb;clear hb)
  |(refine aV rfl 28 _ _ rfl V.heap.size c rfl rfl 28 _ (aC _ _) uPu nf.symm bq ?_;intro w2 h2 k2))
 have ah:Below w1.heap.size w1 w2:=fh.out.trans (((Below.newly' V _).trans (k2.below (aA _))).mono fh.out.size);obtain⟨X7,Ba⟩:∃X7,X7=V.heap.size:=⟨_,rfl⟩
 have zz:=iH h2;rw[<-Ba]at zz ⊢;have Vp:Hid (w1.heap.size<=X7/\X7<w2.heap.size):=⟨by rw[Ba];exact fh.out.size,(gZ zz.out)⟩
 have aq:=iH ah;have HX2:=iH (kW ah HX1.out);have gl:=iH (kW ah HR1.out);have js:=iH (kW ah HRB1.out);clear h2 k2 ah Ba fh HX1 HR1 HRB1 xy bq;have c1:w2.cell? ⟨w.heap.size,1,none⟩=some (.int .i64 (t.a:Int)):=aG HX2.out rfl;have c4:w2.cell? ⟨rb,4,none⟩=some (.int .i64 (n:Int)):=aG js.out rfl;have Zt:¬(64:Int)<(d:Int):=by omega
 have nb:((n:Int)==16384)=true:=eK.2 hO;clear hd hn;go_wp2_with (go_at_call 100;refine(mb.out _).mono ?_;rintro r V2 ⟨E,rfl,he,hb⟩;have HE:=iH he;have s5:=iH hb;clear he hb)
 have al:=HS1.out;have ah:=aq.out.size;exact⟨rfl,_,rfl,HE.out.low hO,dS (HB1.out.trans ((aq.out.trans (s5.out.mono ah)).mono HB1.out.size)) _⟩
theorem aMV (B s:Nat) (bb:Int) (x:ByteArray) (w:World) (rb d n:Nat) (t:Tok) (hR:dG B s bb x w rb t.e n) (k:Int) (c:Array Value) (bq:c.all (·.oneCell')=true) (nf:c.size=5) (S8:c[0]? =some (.int .i64 k)) (A:Tr)
  (tz:∀W,Calls Tryz.prog 99 #[.agg (bN t)] W fun e w'=>e=.returned (.tuple #[.agg c,.bool true])/\Below W.heap.size W w') (hd:d<=64) (hn:n+1<=16384)
  (Vq:∀W,Ctx B W->Calls Tryz.prog 16 #[.agg #[.int .u64 (s:Int),.int .i64 bb],.agg c] W fun e w'=>∃y,e=.returned (.tuple #[.agg (aL y),.int .i64 0])/\VAt (fun g=>W.heap.size<=g) w' A y/\Below W.heap.size W w')
  (R:Ending->World->Prop) (hF:k<4->∀W y,VAt (fun g=>w.heap.size<=g) W A y->dG B s bb x W rb t.e (n+1)->w.grownBy W (some rb)->R (.returned (.agg (aL y))) W)
  (hP:4<=k->∀W y,VAt (fun g=>w.heap.size+2<=g/\g<W.heap.size) W A y->dG B s bb x W rb t.e (n+1)->w.grownBy W (some rb)->
   Calls Tryz.prog 101 #[.pointer (some ⟨rb,0,none⟩),.agg (aL y),.int .i64 ((d:Int)+1)] W (fun e W'=>∃y2,e=.returned (.agg (aL y2))/\W.grownBy W' (some rb)/\∀W2,iL (w.heap.size+1) W' W2->w.heap.size+2<=W.heap.size->w.grownBy W2 (some rb)->R (.returned (.agg (aL y2))) W2)
   \/Calls Tryz.prog 101 #[.pointer (some ⟨rb,0,none⟩),.agg (aL y),.int .i64 ((d:Int)+1)] W (fun e W'=>∃E,e=.panicked [brk E]/\W.grownBy W' (some rb)/\(w.grownBy W' (some rb)->R (.panicked [brk E]) W'))):
  Calls Tryz.prog 53 #[.pointer (some ⟨rb,0,none⟩),.agg (bN t),.int .i64 (d:Int)] w R:=by
 have Nj:=iH Vq;have HF:=iH hF;have HP:=iH hP;clear Vq hF hP;obtain⟨w1,ag⟩:∃w1,(w.alloc (.cells (bN t) 90)).alloc (.cells #[.int .i64 0,.int .i64 0,.string ⟨#[]⟩,.pointer none] 37)=w1:=⟨_,rfl⟩
 obtain⟨af,ai,bu,al⟩:=fL ag;obtain⟨s0,s4,dm⟩:=hR;have eo:=(gZ dm)
 have HX1:=iH ai;have HR1:=iH bu;have HRB1:=iH ((af.block _ eo).trans dm);have HB1:=iH af;have HS1:=iH al;have HRL:=iH eo;have Di:=iH s0;have Kw:=iH s4;have xy:Hid (∀W,Calls Tryz.prog 99 #[.agg (bN t)] W fun e w'=>e=.returned (.tuple #[.agg c,.bool true])/\Below W.heap.size W w'):=tz;clear s0 s4 dm af ai bu al eo tz;go_enter Tryz.func53,Tryz.ntmps53;go_upto_region 1 with fail
 clear ag;go_upto_region 2 with(first
  |(refine aW rfl 90 _ rfl w.heap.size rfl 90 _ _ _ HX1.out Tryz.underlying90 rfl bR ?_)
  |(go_at_call 99;refine(xy.out _).mono ?_;rintro r V ⟨rfl,hb⟩;have fh:=iH hb;clear hb)
  |(refine aV rfl 28 _ _ rfl V.heap.size c rfl rfl 28 _ (aC _ _) uPu nf.symm bq ?_;intro w2 h2 k2))
 have ah:Below w1.heap.size w1 w2:=fh.out.trans (((Below.newly' V _).trans (k2.below (aA _))).mono fh.out.size);obtain⟨X7,Ba⟩:∃X7,X7=V.heap.size:=⟨_,rfl⟩
 have zz:=iH h2;rw[<-Ba]at zz ⊢;have Vp:Hid (w1.heap.size<=X7/\X7<w2.heap.size):=⟨by rw[Ba];exact fh.out.size,(gZ zz.out)⟩
 have aq:=iH ah;have HX2:=iH (kW ah HX1.out);have gl:=iH (kW ah HR1.out);have js:=iH (kW ah HRB1.out);clear h2 k2 ah Ba fh HX1 HR1 HRB1 xy bq;have c4:w2.cell? ⟨rb,4,none⟩=some (.int .i64 (n:Int)):=aG js.out rfl;have Zt:¬(64:Int)<(d:Int):=by omega
 have nb:((n:Int)==16384)=false:=aE.2 hO;have g1:IntKind.i64.wrap ((n:Int)+1)=((n+1:Nat):Int):=by rw[jM]<;>omega
 have g2:IntKind.i64.wrap ((d:Int)+1)=(d:Int)+1:=by rw[jM]<;>omega
 have HG2:=iH g2;have G0:=iH (And.intro hd hn);clear hd hn g2;go_upto_region 9 with(refine lP rfl 3 _ _ rfl rb 4 _ rfl rfl rfl 103 _ js.out uG (show 4<5 by omega) ?_;intro w3 h3 k3)
 have C9:Hid (w3.heap[rb]? =some (.cells (rdC s bb x (t.e:Int) ((n+1:Nat):Int)) 103 (0,0))):=h3;have be:=iH (k3.other zz.out (fun e=>by have h1:=Vp.out;have h2:=HB1.out.size;have h3:=HRL.out;omega));have ma:=iH (k3.other gl.out (fun e=>by have h3:=HRL.out;omega));have je:Hid (w.grownBy w3 (some rb)):=bD (dS (tW HB1.out aq.out) _) k3.by_;have xz:Hid (Ctx B w3):=Di.out.grown je.out Kw.out;clear h3 k3 c4 Zt nb g1 zz gl js HX2;have ar:Hid (∀V,Below w3.heap.size w3 V->V.rangeAt rb 0 (#[.int .u64 (s:Int),.int .i64 bb]:Array Value).toList/\V.heap[X7]? =some (.cells c 28 (0,0))):=fun V hV=>⟨fun j u hu=>aG (kW hV C9.out) (by
  match j,hu with
  |0,hu=>exact hu
  |1,hu=>exact hu
  |j+2,hu=>simp at hu),(kW hV be.out)⟩
 replace Nj:Hid (∀W,Below w3.heap.size w3 W->Calls Tryz.prog 16 #[.agg #[.int .u64 (s:Int),.int .i64 bb],.agg c] W fun e w'=>∃y,e=.returned (.tuple #[.agg (aL y),.int .i64 0])/\VAt (fun g=>W.heap.size<=g) w' A y/\Below W.heap.size W w'):=fun W hW=>Nj.out W (xz.out.later hW xz.out.size)
 have HW:Hid (Below w3.heap.size w3 w3.drew):=aY w3;apply tl3 (Q:=fun(Z:Nat) (wS:World) (y:Cel)=>wS.heap[Z]? =some (.cells (aL y) 37 (0,0))/\VAt (fun g=>w3.heap.size<=g/\g≠Z) wS A y/\Below w3.heap.size w3 wS/\w3.heap.size<=Z)
 ·intro pz
  refine bO (S:=(fun V=>V.rangeAt rb 0 (#[.int .u64 (s:Int),.int .i64 bb]:Array Value).toList/\V.heap[X7]? =some (.cells c 28 (0,0)))) [8,10,11] uAu uAw (fun ab=> ?_);obtain⟨wd,j9⟩:∃wd,wd=w3.drew:=⟨_,rfl⟩
  rw[<-j9]at HW ab ⊢;clear j9;refine tkL 0 45 (h:=?_);refine tkL 1 46 (h:=?_);(try simp only[pq]);refine tkL 2 47 (h:=?_);refine tyL 3 48 (hy:=dX uAz 24 _ rfl rb 0 rfl #[.int .u64 (s:Int),.int .i64 bb] _ (fun w hw=>hw.1) Tryz.underlying24 rfl (by exact gQ)) (h:=?_);(try simp only[pq]);refine tyL 4 49 (hy:=aJ uAz 28 _ rfl X7 rfl c 28 (0,0) _ (fun w hw=>hw.2) Tryz.underlying28 rfl uPu) (h:=?_);(try simp only[pq]);refine fU (rs:=[5,9]) uAu uAy (jJ.cons (o:=⟨some 50,_,_,_,_,_⟩) rfl (fun K hK=> ?_) (jJ.cons (o:=⟨some 9,_,_,_,_,_⟩) rfl (fun K hK=> ?_) jJ.nil))
  ·go_simp
   go_at_call 16;(with_reducible refine(Nj.out _ uBx).mono ?_);rintro r wc ⟨y,rfl,hy,hb⟩;have HY:=iH hy;have my:=iH HW.out.size;replace HW:=iH (tW HW.out hb);clear hy hb;dsimp only;refine hK.out _ _ uAw (fun ab=> ?_);clear hK K;(try simp only[pq]);refine tkL 6 44 (h:=?_);refine tkP 8 52 (h:=?_);(try simp only[pq]);refine tkL 7 51 (h:=?_);(try simp only[pq]);refine tkO 9 (some 9) (h:=fun K hK=> ?_);go_simp;have fs:Hid ((wc.alloc (.cells #[.int .i64 0,.int .i64 0,.string ⟨#[]⟩,.pointer none] 37)).heap[wc.heap.size]? =some (.cells #[.int .i64 0,.int .i64 0,.string ⟨#[]⟩,.pointer none] 37 (0,0))):=aC _ _;have gz:Hid (w3.heap.size<=wc.heap.size):=HW.out.size;have C7:=iH (Below.newly' wc (.cells #[.int .i64 0,.int .i64 0,.string ⟨#[]⟩,.pointer none] 37));replace HW:=iH (tW HW.out C7.out);obtain⟨Z,hZ⟩:∃Z,Z=wc.heap.size:=⟨_,rfl⟩
   have Kl:Hid (Z=wc.heap.size):=hZ;obtain⟨wz,ja⟩:∃wz,wz=wc.alloc (.cells #[.int .i64 0,.int .i64 0,.string ⟨#[]⟩,.pointer none] 37):=⟨_,rfl⟩
   rw[<-ja,<-hZ]at fs;rw[<-hZ]at gz;rw[<-ja]at HW C7 ⊢;rw[<-hZ];clear ja hZ;refine hK.out _ _ uAw (fun ab=> ?_);clear hK K;(try simp only[pq]);refine tkU 10 none (h:=fun K hK=> ?_);refine eC 37 _ _ rfl Z (aL y) rfl rfl 37 _ fs.out aF rfl (cE y) ?_;intro wS hS kS;refine hK.out _ _ ?_;clear hK K;(try simp only[pq]);refine tkU 11 (some 10) (h:=fun K hK=> ?_);go_simp;refine hK.out _ _ ?_;clear hK K;(try simp only[pq]);refine bJ uAu ?_ _;clear ab;exact pz Z wS y ⟨hS,(HY.out.old.imp ((Kq.later C7.out).trans (Kq.only kS fun h=>by have h2:=Kl.out;have h3:=h.2;omega)) fun g h _=>⟨by have h1:=my.out;have h2:=h.1;omega,fun e=>by have h1:=Kl.out;have h2:=h.2;omega⟩),HW.out.trans (kS.below gz.out),gz.out⟩
  ·go_simp
   have fs:Hid ((wd.alloc (.cells #[.int .i64 0,.int .i64 0,.string ⟨#[]⟩,.pointer none] 37)).heap[wd.heap.size]? =some (.cells #[.int .i64 0,.int .i64 0,.string ⟨#[]⟩,.pointer none] 37 (0,0))):=aC _ _;have gz:Hid (w3.heap.size<=wd.heap.size):=HW.out.size;have C7:=iH (Below.newly' wd (.cells #[.int .i64 0,.int .i64 0,.string ⟨#[]⟩,.pointer none] 37));replace HW:=iH (tW HW.out C7.out);obtain⟨Z,hZ⟩:∃Z,Z=wd.heap.size:=⟨_,rfl⟩
   have Kl:Hid (Z=wd.heap.size):=hZ;obtain⟨wz,ja⟩:∃wz,wz=wd.alloc (.cells #[.int .i64 0,.int .i64 0,.string ⟨#[]⟩,.pointer none] 37):=⟨_,rfl⟩
   rw[<-ja,<-hZ]at fs;rw[<-hZ]at gz;rw[<-ja]at HW C7 ⊢;rw[<-hZ];clear ja hZ;refine hK.out _ _ uAw (fun ab=> ?_);clear hK K;(try simp only[pq]);refine tkO 5 (some 50) (h:=fun K hK=> ?_);go_simp;go_at_call 16;(with_reducible refine(Nj.out _ uBx).mono ?_);rintro r wc ⟨y,rfl,hy,hb⟩;have HY:=iH hy;have O6:=iH (kW hb fs.out);have my:=iH HW.out.size;replace HW:=iH (tW HW.out hb);clear hy hb;dsimp only;refine hK.out _ _ uAw (fun ab=> ?_);clear hK K;(try simp only[pq]);refine tkL 6 44 (h:=?_);refine tkP 8 52 (h:=?_);(try simp only[pq]);refine tkL 7 51 (h:=?_);(try simp only[pq]);refine tkU 10 none (h:=fun K hK=> ?_);refine eC 37 _ _ rfl Z (aL y) rfl rfl 37 _ O6.out aF rfl (cE y) ?_;intro wS hS kS;refine hK.out _ _ ?_;clear hK K;(try simp only[pq]);refine tkU 11 (some 10) (h:=fun K hK=> ?_);go_simp;refine hK.out _ _ ?_;clear hK K;(try simp only[pq]);refine bJ uAu ?_ _;clear ab;exact pz Z wS y ⟨hS,(HY.out.imp (Kq.only kS fun h=>by have h1:=(gZ fs.out);omega) fun g h _=>⟨by have h1:=my.out;omega,fun e=>by have h1:=(gZ fs.out);omega⟩),HW.out.trans (kS.below gz.out),gz.out⟩
 ·rintro Z wS y ⟨hZ,hY,hB,Km⟩
  have D1:=iH hZ;have HY:=iH hY;have zy:=iH hB;have gz:Hid (w3.heap.size<=Z):=Km;have S9:=iH (kW hB C9.out);have Nb:=iH (kW hB ma.out);have Ky:Hid (w.grownBy wS (some rb)):=bD je.out (dS hB _);have c0:wS.cell? ⟨X7,0,none⟩=some (.int .i64 k):=aG (kW hB be.out) S8;have nm:Hid (w.heap.size+2<=w3.heap.size):=by
   show _<=_;have h1:=je.out.size;have h2:=HS1.out;have h3:=aq.out.size;have h4:=(gZ ma.out)
   omega
  clear hZ hY hB Km HW ar Nj be ma;by_cases ck:k<4
  case pos=>
   have Mu:=iH ck;go_wp2_with (first
    |(refine aW rfl 37 _ rfl Z rfl 37 _ _ _ D1.out Tryz.underlying37 rfl aF ?_)
    |(refine aV rfl 37 _ _ rfl (w.heap.size+1) (aL y) rfl rfl 37 _ Nb.out aF rfl (cE y) ?_;intro w9 h9 k9))
   refine aN (bE rfl _ _ (w.heap.size+1) 37 _ (0,0) _ rfl h9 Tryz.underlying37 rfl aF) rfl ?_;have de:=nm.out;have Ay:=nE Ky.out k9 hO;exact HF.out Mu.out w9 y (HY.out.imp (Kq.only k9 fun h=>by omega) fun g h _=>by omega) ⟨Di.out.grown Ay Kw.out,Kw.out,k9.other S9.out uHu⟩ Ay
  have ft:Hid (dG B s bb x wS rb t.e (n+1)):=⟨Di.out.grown Ky.out Kw.out,Kw.out,S9.out⟩
  rcases HP.out hO wS y (HY.out.old.imp Kq.refl fun g h _=>by have:=nm.out;omega) ft.out Ky.out with el|el
  ·have oq:=iH el
   have g2:=HG2.out;clear el HP HF;go_wp2_with (first
    |(refine aW rfl 37 _ rfl Z rfl 37 _ _ _ D1.out Tryz.underlying37 rfl aF ?_)
    |(go_at_call 101;(with_reducible refine oq.out.mono ?_);rintro r w5 ⟨y2,rfl,Cn,Ht⟩;have zi:=iH Cn;have Zu:=iH Ht;have nu:=iH ((Cn.block _ (gZ Nb.out) (fun e=>by have:=aH e;have h3:=HRL.out;omega)).trans Nb.out);clear Cn Ht)
    |(refine aV rfl 37 _ _ rfl (w.heap.size+1) (aL y2) rfl rfl 37 _ nu.out aF rfl (cE y2) ?_;intro w9 h9 k9))
   refine aN (bE rfl _ _ (w.heap.size+1) 37 _ (0,0) _ rfl h9 Tryz.underlying37 rfl aF) rfl ?_;exact Zu.out w9 k9 (by have h1:=nm.out;have h2:=zy.out.size;omega) (nE (bD Ky.out zi.out) k9 hO)
  ·have oq:=iH el
   have g2:=HG2.out;clear el HP HF;go_wp2_with (first
    |(refine aW rfl 37 _ rfl Z rfl 37 _ _ _ D1.out Tryz.underlying37 rfl aF ?_)
    |(go_at_call 101;(with_reducible refine oq.out.mono ?_);rintro r w5 ⟨E,rfl,Cn,Ht⟩;have zi:=iH Cn;have Zu:=iH Ht;clear Cn Ht))
   exact⟨rfl,Zu.out (bD Ky.out zi.out)⟩
theorem aKN {t:Tok} {k i:Int} {z:List UInt8} (h:hdS t=some (k,i,z,true)):i=0/\z=[]:=by
 unfold hdS at h
 repeat' split at h
 all_goals simp only[bA,cZ,reduceCtorEq,and_false,Bool.false_eq_true]at h
 all_goals exact⟨h.2.1.symm,h.2.2.1.symm⟩
theorem aN8 (k i:Int) (t:ByteArray):cP (.nd k i t [] [])=.nd k i t [] []:=by
 rw[cP];split
 ·rename_i h;subst h;rfl
 ·split
  ·rename_i h;subst h;rfl
  ·rfl
theorem aDe {k:Int} (hk:k=4\/k=5\/k=6):cP (.nd k 0 ⟨#[]⟩ [] [])=.nd k 0 ⟨#[]⟩ [] []:=by
 rcases hk with rfl|rfl|rfl
 ·rw[aSg];rfl
 ·rw[aQ6];rfl
 ·rw[aQ5];rfl
theorem aPV (B s:Nat) (bb:Int) (x:ByteArray) (f:Nat) (hx:x.size<=2000000) (hs:s<18446744073709551616) (hP:aQn B s bb x f):aJW B s bb x (f+1):=by
 intro w rb d b n t hR yh hd hn hb pf hf;have hl:x.data.toList.length=x.size:=cY x;obtain⟨t1,t2,t3⟩:=jP (l:=x.data.toList) hO pf;have hg:=(aCr pf).2.2.2;obtain⟨n1,n2⟩:=aBw pf;have tz:=aQ2 t hg;cases hh:hdS t with
 |none=>
  rw[aC4 pf hh];have hv:hdV t=(trC 0 0 ⟨#[]⟩ (.slice none 0 0) (.slice none 0 0)):=by unfold hdV;rw[hh]
  rw[hh,hv]at tz;exact aIo B s bb x w rb d n t hR hO _ uAx rfl tz
 |some y=>
  obtain⟨k,i,z,p⟩:=y;have hv:hdV t=trC k i ⟨z.toArray⟩ (.slice none 0 0) (.slice none 0 0):=by unfold hdV;rw[hh]
  rw[hh,hv]at tz;by_cases lu:64<d
  ·rw[aC7 pf hh lu]
   exact aIq B s bb x w rb d n t hR hO _ uAx rfl tz lu
  by_cases tf:16384<n+1
  ·rw[aC5 pf hh hO tf]
   exact aIp B s bb x w rb d n t hR hO _ uAx rfl tz hO hO
  have qy:OkT (.nd k i ⟨z.toArray⟩ [] [])/\xR (.nd k i ⟨z.toArray⟩ [] [])/\InR k/\z.length<=x.size:=by
   rcases aCQ hg hh with⟨rfl,h0,h3,hc,hi⟩|⟨rfl,hk⟩
   ·have:=aEs h0 h3 hc hi
    have h5:=(aKO n1 hh).2;exact⟨this.1,this.2,uFz,by omega⟩
   ·obtain⟨rfl,rfl⟩:=aKN hh
    have:=aBv (ks:=[]) (xs:=[]) hk (fun y hy=>by cases hy) (fun _=>⟨rfl,lO⟩) (fun _=>rfl) (fun _=>by rw[lB];exact lO);exact⟨this.1,this.2,uFz,aS _⟩
  obtain⟨o1,o2,o3,o4⟩:=qy;have Zv:gJ (.nd k i ⟨z.toArray⟩ [] [])=1:=by rw[gJ,fP]
  have Ta:eW (.nd k i ⟨z.toArray⟩ [] [])=1:=by rw[eW,cU]
  have S8:chkT (.nd k i ⟨z.toArray⟩ [] [])=0:=aS9.2 ⟨o1,by omega,by omega⟩;have mr:(⟨z.toArray⟩:ByteArray).size<=2000000:=by show z.toArray.size<=_;rw[bI];omega
  have Vq:∀W,Ctx B W->Calls Tryz.prog 16 #[.agg #[.int .u64 (s:Int),.int .i64 bb],.agg (trC k i ⟨z.toArray⟩ (.slice none 0 0) (.slice none 0 0))] W fun e w'=>∃y,e=.returned (.tuple #[.agg (aL y),.int .i64 0])/\VAt (fun g=>W.heap.size<=g) w' (cP (.nd k i ⟨z.toArray⟩ [] [])) y/\Below W.heap.size W w':=fun W hW=>by
   rw[aN8];exact aSO k i ⟨z.toArray⟩ W s bb (aNH o3 (qT.1 o2).1 (aI mr uAv)) (rO.1 o1).1 hs
  have eo:=(gZ hR.2.2)
  refine aMV B s bb x w rb d n t hR k _ uAx rfl rfl _ tz hO hO Vq _ ?_ ?_
  ·intro h4 W y h1 h2 h3
   rcases aCQ hg hh with⟨rfl,_⟩|⟨_,hk⟩
   ·rw[aC6 pf hh hO hO]
    exact⟨y,rfl,h1.weak fun g h=>.inr h,h2,h3⟩
   ·omega
  ·intro h4 W y h1 h2 h3
   rcases aCQ hg hh with⟨_,_,h,_⟩|⟨rfl,hk⟩
   ·omega
   obtain⟨rfl,rfl⟩:=aKN hh;rw[show(⟨([]:List UInt8).toArray⟩:ByteArray)=⟨#[]⟩from rfl,aDe hk]at h1;have de:=h3.size;have hp:=hP W rb k d t.e (n+1) _ y h2 hk yh hO hO hO h1 (fun g hg=>⟨hg.2,by omega⟩) hO hO;rw[aC3 pf hh hO hO];cases hr:aAQ x.data.toList f k d t.e (n+1)with
   |ok r=>
    rw[hr]at hp;refine .inl (hp.mono fun e W' ⟨y2,e1,e2,e3,e4⟩=>⟨y2,e1,e4,fun W2 k2 eh kx=>⟨y2,rfl,e2.imp (Kq.only k2 fun h=> ?_) fun g h _=> ?_,⟨e3.1.grown_only k2 ?_,e3.2.1,k2.other e3.2.2 hO⟩,kx⟩⟩)
    ·rcases h with h|h<;>omega
    ·rcases h with h|h
     ·exact .inr hO
     ·exact .inr hO
    ·have:=hR.1.size;omega
   |error q=>
    rw[hr]at hp;refine .inr (hp.mono fun e W' ⟨E,e1,e2,e3⟩=>⟨E,e1,e3,fun kx=>⟨E,rfl,e2.low hO,kx⟩⟩)
end Go.Proofs.YthmfgidbcghnfaaGreatDoor
