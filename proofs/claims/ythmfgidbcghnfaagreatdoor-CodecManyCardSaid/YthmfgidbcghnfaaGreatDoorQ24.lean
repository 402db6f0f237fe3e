import Derived.Test.YthmfgidbcghnfaaGreatDoorQ0
import Derived.Test.YthmfgidbcghnfaaGreatDoorQ23
set_option maxRecDepth 1000000
set_option maxHeartbeats 8000000
set_option linter.unusedSimpArgs false
namespace Go.Proofs.YthmfgidbcghnfaaGreatDoor
open Go.RowKit
theorem dP:(Tryz.prog.info? 138).map (·.size)=some 2:=by kernel_rfl
theorem aMt {S:Nat->Prop} {w:World} {d:Value} {l:List Int} (h:bY S w 1 d (iv l) l.length):lV w 1 d (fi fun j=>l.getD j 0) l.length:=
 h.places.congr fun j hj=>by
  rw[nL]at hj;have e:=aHO l j hj;rw[List.getD_eq_getElem?_getD,e];rfl
theorem aKH {S:Nat->Prop} {w:World} {a:Option Addr} {c:Nat} {l:List Int} (h:bY S w 1 (.slice a l.length c) (iv l) l.length) (h0:0<l.length):∃g o,a=some ⟨g,o,none⟩/\∀j,j<l.length->w.cell? ⟨g,o+j,none⟩=some (.int .i64 (l.getD j 0)):=by
 obtain⟨g,o,c',e,_,_,_,hc⟩:=h.pos h0;simp only[eJ]at e;exact⟨g,o,e.1,fun j hj=>hc j _ (aHO l j hj)⟩
theorem aCR {l:List Int} {j:Nat} (h:l.length<=j):l.getD j 0=0:=by rw[List.getD_eq_getElem?_getD,List.getElem?_eq_none h];rfl
theorem xK {B g n c:Nat} {W:World} {aj:Array Value} {l:List Int} (hg:W.heap[g]? =some (.cells aj 3 (0,0))) (hB:B<=g) (hn:n=l.length) (hc:n<=c) (h:∀j,j<l.length->aj[j]? =some (.int .i64 (l.getD j 0))):
  bY (fun g=>B<=g) W 1 (.slice (some ⟨g,0,none⟩) n c) (iv l) l.length:=by
 subst hn;refine⟨_,c,rfl,hc,by rw[aAv,nL],.inr ⟨g,0,rfl,hB,(gZ hg),fun j u hu=> ?_⟩⟩;have hj:j<l.length:=by have:=(List.getElem?_eq_some_iff.1 hu).1;rwa[aAv]at this
 rw[aHO l j hj]at hu;rw[eA];exact aG hg ((h j hj).trans hu)
def aNc (l:List Int):Prop:=∀j,0<=l.getD j 0/\l.getD j 0<=100000
theorem wY {xs:List Tr} (h:xs.length<=100000):aNc (tal xs):=fun j=>by
 rw[tP];have:=aS6 xs j;omega
theorem aGR (w:World) (a:Option Addr) (k c:Nat) (n:Int) (hk:k<=100000):Calls Tryz.prog 62 #[.agg #[.slice a k c,.int .i64 n]] w fun r w'=>r=.returned (.int .i64 ((k+1:Nat):Int))/\Below w.heap.size w w':=by
 have gd:(k:Int)<=100000:=by omega
 have HB:=iH (Below.newly' w (.cells #[.slice a k c,.int .i64 n] 138));go_enter Tryz.func62,Tryz.ntmps62;go_wp2
 go_ret;exact⟨by first|rfl|simp,HB.out⟩
theorem aFs {S:Nat->Prop} (w:World) (d e:Value) (l m:List Int) (n p:Nat) (hd:bY S w 1 d (iv l) l.length) (he:bY S w 1 e (iv m) m.length) (hl:l.length<=100) (hm:m.length<=100) (Bo:aNc l) (Q6:aNc m) (hn:n<=100000) (hp:p<=100000):
  Calls Tryz.prog 68 #[.agg #[d,.int .i64 (n:Int)],.agg #[e,.int .i64 (p:Int)]] w fun r w'=>∃d',r=.returned (.agg #[d',.int .i64 ((n+p:Nat):Int)])/\bY (fun g=>w.heap.size<=g) w' 1 d' (iv (aCi l m)) (aCi l m).length/\Below w.heap.size w w':=by
 obtain⟨i,hi,hz,h1,h2⟩:=dO vX;obtain⟨da,dc,rfl,_⟩:=hd.shape;obtain⟨ea,ec,rfl,_⟩:=he.shape;obtain⟨w3,Dt⟩:∃w3,((w.alloc (.cells #[.slice da l.length dc,.int .i64 (n:Int)] 138)).alloc (.cells #[.slice ea m.length ec,.int .i64 (p:Int)] 138)).alloc (.cells #[.slice none 0 0,.int .i64 0] 138)=w3:=⟨_,rfl⟩
 obtain⟨au,lf,zr,Q7,gi⟩:=dF Dt;obtain⟨N,hN⟩:∃N,N=max l.length m.length:=⟨_,rfl⟩
 have IU:max (l.length:Int) (m.length:Int)=(N:Int):=by omega
 have tu:w3.cell? ⟨w.heap.size,0,none⟩=some (.slice da l.length dc):=aG lf rfl;have Q8:w3.cell? ⟨w.heap.size+1,0,none⟩=some (.slice ea m.length ec):=aG zr rfl;have be:=iH lf;have dp:=iH zr;have xg:=iH Q7;have av:=iH au;have cd:=iH gi;have HD:=iH (hd.later au);have HE:=iH (he.later au);have HI:=iH (And.intro hi (And.intro hz (And.intro h1 h2)));have HN:=iH (And.intro hN (And.intro hl (And.intro hm (And.intro hn hp))));have Oj:=iH Bo;have Hz:=iH Q6;have qw:(l.length:Int)<=100:=by omega
 have L7:(m.length:Int)<=100:=by omega
 have Em:(N:Int)<=100:=by omega
 have nb:(n:Int)<=100000:=by omega
 have wt:(p:Int)<=100000:=by omega
 clear hi hz h1 h2 au lf zr Q7 gi hd he hl hm Bo Q6 hn hp hN;go_enter Tryz.func68,Tryz.ntmps68;go_upto_region 1 with fail
 clear Dt;go_upto_region 2 with(first
  |(refine nI _ rfl _ _ 112 rfl 3 i (.int .i64 0) 1 Tryz.underlying112 HI.out.1 HI.out.2.1 HI.out.2.2.1 .i64 .i64 N rfl rfl uOv hO ?_))
 clear IU;obtain⟨w4,j0⟩:∃w4,w4=w3.alloc (.cells (madeCells #[.int .i64 0] N) 3):=⟨_,rfl⟩
 have bh:Below w3.heap.size w3 w4:=by rw[j0];exact Below.newly' _ _
 have qf:Hid (w4.heap[w3.heap.size]? =some (.cells (madeCells #[.int .i64 0] N) 3 (0,0))):=by show _=_;rw[j0];exact aC _ _
 replace tu:w4.cell? ⟨w.heap.size,0,none⟩=some (.slice da l.length dc):=(bh.cell (aO _ _ tu)).trans tu;rw[<-j0];have CE:=iH (HD.out.later bh);have bg:=iH bh;obtain⟨G,hG⟩:∃G,G=w3.heap.size:=⟨_,rfl⟩
 have Cq:=iH hG;rw[<-hG]at qf ⊢;clear j0 bh hG Q8 HD;go_upto_region 3 with(first
  |(refine aDx rfl _ _ 112 112 rfl 3 Tryz.underlying112 1 zK G N N rfl _ rfl (fi fun j=>l.getD j 0) l.length (aMt CE.out) (by have:=HN.out.1;omega) 3 _ qf.out (by rw[oV];have:=HN.out.1;omega) (fun _ _=>rfl) ?_;intro w5 c5 E6 ki nf k5;have Al:=iH E6;have Q9:=iH ki;have By:=iH nf;have xf:=iH k5;clear E6 ki nf k5))
 have qq:=Cq.out;have gi:=cd.out;have bp:Hid (Below w3.heap.size w3 w5):=bg.out.trans (xf.out.below hO);have Gn:=iH (HE.out.later bp.out);have fg:=iH ((bp.out.block _ hO).trans be.out);have gk:=iH ((bp.out.block _ hO).trans dp.out);have Q8:w5.cell? ⟨w.heap.size+1,0,none⟩=some (.slice ea m.length ec):=aG gk.out rfl;have Xx:Hid (c5.size=N/\∀j,j<N->c5[j]? =some (.int .i64 (l.getD j 0))):=by
  refine⟨by rw[Q9.out,oV],fun j hj=> ?_⟩;rw[By.out j];split
  ·rfl
  ·rw[aBy _ _ _ hO,aCR hO]
   simp[Value.cells,Nat.mod_one]
 clear qq gi tu qf CE Q9 By xf bg;go_wp2_with fail
 go_loopw [23] (fun L9 wr=>∃(q:Nat) (aj:Array Value),L9=.int .i64 (q:Int)/\q<=m.length/\Hid (wr.heap[G]? =some (.cells aj 3 (0,0)))/\Hid (aj.size=N/\∀j,j<N->aj[j]? =some (.int .i64 (l.getD j 0+if j<q then m.getD j 0 else 0)))/\Hid (Below w3.heap.size w3 wr)) (fun L9 _=>m.length-(intOf L9).toNat)
 case atStart=>exact⟨0,c5,rfl,aS _,Al,⟨Xx.out.1,fun j hj=>by rw[Xx.out.2 j hj];simp⟩,bp⟩
 case round=>
  clear Al Xx bp fg gk Gn Q8;obtain⟨q,aj,rfl,hq,HG,HC,HB⟩:=hrel;by_cases hlt:q<m.length
  ·have Jv:q<N:=by have:=HN.out.1;omega
   have Xy:(q:Int)<(N:Int):=by omega
   have l0:(q:Int)<(m.length:Int):=by omega
   obtain⟨x,hx⟩:∃x,x=l.getD q 0:=⟨_,rfl⟩
   obtain⟨y,hy⟩:∃y,y=m.getD q 0:=⟨_,rfl⟩
   have cg:wr.cell? ⟨G,q,none⟩=some (.int .i64 x):=by
    have:=HC.out.2 q Jv;rw[if_neg hO,Int.add_zero,<-hx]at this;exact aG HG.out this
   obtain⟨g,o,rfl,ep⟩:=aKH (HE.out.later HB.out) hO;have cm:=ep q hlt;rw[<-hy]at cm;have Ra:=Oj.out q;have jc:=Hz.out q;rw[<-hx]at Ra;rw[<-hy]at jc;obtain⟨uj,ai⟩:=Ra;obtain⟨ib,aw⟩:=jc;have HX:=iH (And.intro hx hy);clear ep hx hy;go_wp2_with (first
    |(refine lP rfl 3 _ _ rfl G q (.int .i64 (x+y)) rfl rfl rfl 3 aj HG.out zK uVw ?_;intro w6 h6 k6;have jl:=iH h6;have np:=iH k6;clear h6 k6))
   go_roundw
   case rel=>
    refine⟨q+1,_,by simp,by omega,jl,⟨by rw[Array.size_setIfInBounds];exact HC.out.1,fun j hj=> ?_⟩,HB.out.trans (np.out.below (by have:=Cq.out;omega))⟩;exact Ad5
   case measure=>simp[intOf];omega
  ·obtain rfl:q=m.length:=by omega
   have gi:=cd.out;have qq:=Cq.out;have hx:=(HB.out.block w.heap.size hO).trans be.out;have hy:=(HB.out.block (w.heap.size+1) hO).trans dp.out;have HZ:=iH ((HB.out.block (w.heap.size+2) hO).trans xg.out);have Ah:wr.cell? ⟨w.heap.size,1,none⟩=some (.int .i64 (n:Int)):=aG hx rfl;have CF:wr.cell? ⟨w.heap.size+1,1,none⟩=some (.int .i64 (p:Int)):=aG hy rfl;clear hx hy gi qq;go_wp2_with (first
    |(refine aV rfl 138 _ _ rfl (w.heap.size+2) #[.slice (some ⟨G,0,none⟩) N N,.int .i64 ((n:Int)+(p:Int))] rfl rfl 138 _ HZ.out dP rfl uAx ?_;intro w7 h7 k7))
   have gi:=cd.out;have qq:=Cq.out;refine aN (bE rfl _ _ (w.heap.size+2) 138 _ (0,0) _ rfl h7 Tryz.underlying138 rfl dP) rfl ⟨_,by rw[Int.natCast_add],?_,(tW av.out HB.out).trans (k7.below hO)⟩;refine xK (k7.other HG.out hO) hO (by rw[wZ];exact HN.out.1) (aA _) fun j hj=> ?_
   rw[wZ,<-HN.out.1]at hj;rw[aEm _ _ (by have:=HN.out.1;omega),HC.out.2 j hj];split
   ·rfl
   ·rw[aCR (l:=m) hO]
theorem aMu (p:Addr) (n c:Nat) (w:World):(binOp .eql 112 (.slice (some p) n c) (.slice none 0 0)).run Tryz.prog w=.ok (.bool false) w:=by
 have hu:=jY (w:=w) Tryz.underlying112;exact Aa8
theorem il_sl:Tryz.prog.underlying 112=some (.slice (Tryz.prog.elem 112)):=by kernel_rfl
theorem aPb:∀w,(sizeOf (Tryz.prog.elem 112)).run Tryz.prog w=.ok 1 w:=fun w=>by
 have e:Tryz.prog.elem 112=3:=by kernel_rfl
 rw[e];obtain⟨i,hi,_,h1,_⟩:=dO vX;simp[sizeOf,typeInfo,hi,h1]
theorem aS8 {S:Nat->Prop} (w:World) (v:Value) (l:List Int) (hv:bY S w 1 v (iv l) l.length) (h0:0<l.length) (hn:l.length<=4096):
  Calls Tryz.prog 273 #[v] w fun e w'=>∃g c,e=.returned (.slice (some ⟨g,0,none⟩) l.length c)/\l.length<=c/\w.heap.size<=g/\∃aj,w'.heap[g]? =some (.cells aj 3 (0,0))/\l.length<=aj.size/\(∀j,j<l.length->aj[j]? =some (.int .i64 (l.getD j 0)))/\Below w.heap.size w w':=by
 obtain⟨i,hi,hz,h1,h2⟩:=dO vX;have HV:=iH hv;have HI:=iH (And.intro hi (And.intro hz (And.intro h1 h2)));obtain⟨g,o,c,rfl,_⟩:=hv.pos h0;obtain⟨n,nb⟩:∃n,n=l.length:=⟨_,rfl⟩
 have IV:=iH nb;rw[<-nb]at hn h0 HV ⊢;have HN:=iH hn;have H0:=iH h0;clear hv hi hz h1 h2 hn h0 nb;have xx:=fun w=>aMu ⟨g,o,none⟩ n c w
 go_enter Tryz.func273,Tryz.ntmps273;go_wp2_with (refine iP rfl _ _ 112 rfl w.heap.size 3 i (.int .i64 0) 8 Tryz.underlying112 HI.out.1 HI.out.2.1 HI.out.2.2.1 HI.out.2.2.2 rfl uAv rfl (oO (base:=w.heap.size) (e:=3) (size:=1) w #[] 0 (aA _) uCx rfl) rfl (HV.out.later (Below.newly' _ _)) aP3 uNz uJz uAy ?_;intro v2 w2 xu kx;have Eg:=iH xu;have HG2:=iH kx;clear xu kx)
 go_ret;obtain⟨hl,⟨e,h3⟩|⟨g2,c2,Eh,e,hb,hg,hc,h3,h4,h5⟩⟩:=Eg.out
 ·have:=H0.out;omega
 ·rw[eA]at e hc h5
  refine⟨g2,c2,by rw[<-e];rfl,hc,hb,Eh,hg,by omega,fun j hj=> ?_,(Below.newly' w _).trans (jR HG2.out uAy (fun k e=>by have e':some w.heap.size=some k:=e;have:=aH e';omega))⟩;rw[aT]at h5;rw[<-List.getD_eq_getElem?_getD,<-aHO l j (by rw[<-IV.out];exact hj),<-h5,List.getElem?_take_of_lt hO,Array.getElem?_toList]
theorem aQL {S:Nat->Prop} (w:World) (d e:Value) (l m:List Int) (n p:Nat) (hd:bY S w 1 d (iv l) l.length) (he:bY S w 1 e (iv m) m.length) (h0:0<l.length) (hl:l.length<=100) (hm:m.length<=l.length) (Bo:aNc l) (Q6:aNc m) (hn:n<=100000) (hp:p<=n):
  Calls Tryz.prog 246 #[.agg #[d,.int .i64 (n:Int)],.agg #[e,.int .i64 (p:Int)]] w fun r w'=>∃d',r=.returned (.agg #[d',.int .i64 ((n-p:Nat):Int)])/\bY (fun g=>w.heap.size<=g) w' 1 d' (iv ((qG l m).take (oB (qG l m) l.length))) ((qG l m).take (oB (qG l m) l.length)).length/\Below w.heap.size w w':=by
 obtain⟨da,dc,rfl,_⟩:=hd.shape;obtain⟨ea,ec,rfl,_⟩:=he.shape;obtain⟨w3,Dt⟩:∃w3,((w.alloc (.cells #[.slice da l.length dc,.int .i64 (n:Int)] 138)).alloc (.cells #[.slice ea m.length ec,.int .i64 (p:Int)] 138)).alloc (.cells #[.slice none 0 0,.int .i64 0] 138)=w3:=⟨_,rfl⟩
 obtain⟨au,lf,zr,Q7,gi⟩:=dF Dt;obtain⟨N,hN⟩:∃N,N=l.length:=⟨_,rfl⟩
 have s9:=iH (aS8 w3 _ l (hd.later au) h0 hO);rw[<-hN]at s9 h0;have tu:w3.cell? ⟨w.heap.size,0,none⟩=some (.slice da N dc):=by rw[hN];exact aG lf rfl
 have be:=iH lf;have dp:=iH zr;have xg:=iH Q7;have av:=iH au;have cd:=iH gi;have HE:=iH (he.later au);have HN:=iH (And.intro hN (And.intro hl (And.intro hm (And.intro hn hp))));have Oj:=iH Bo;have Hz:=iH Q6;have L7:(m.length:Int)<=100:=by omega
 have Em:(N:Int)<=100:=by omega
 have nb:(n:Int)<=100000:=by omega
 have wt:(p:Int)<=(n:Int):=by omega
 rw[<-hN];obtain⟨F,hF⟩:∃F,F=qG l m:=⟨_,rfl⟩
 have HF:=iH hF;rw[<-hF];clear au lf zr Q7 gi hd he hl hm Bo Q6 hn hp hN h0 hF;rw[<-HN.out.1]at Dt;go_enter Tryz.func246,Tryz.ntmps246;go_upto_region 1 with fail
 clear Dt;go_upto_region 2 with(first
  |(go_at_call 273;refine s9.out.mono ?_;rintro r w5 ⟨G,C,rfl,nf,CG,c5,E6,ki,CH,ay⟩;have By:=iH nf;have Al:=iH CG;have Uq:=iH E6;have Q9:=iH ki;have CI:=iH CH;have bp:=iH ay;clear nf CG E6 ki CH ay))
 have gi:=cd.out;have gk:=iH ((bp.out.block _ hO).trans dp.out);have Q8:w5.cell? ⟨w.heap.size+1,0,none⟩=some (.slice ea m.length ec):=aG gk.out rfl;clear gi tu s9;go_wp2_with fail
 go_loopw [14] (fun L9 wr=>∃(q:Nat) (aj:Array Value),L9=.int .i64 (q:Int)/\q<=m.length/\Hid (wr.heap[G]? =some (.cells aj 3 (0,0)))/\Hid (N<=aj.size/\∀j,j<N->aj[j]? =some (.int .i64 (l.getD j 0-if j<q then m.getD j 0 else 0)))/\Hid (Below w3.heap.size w3 wr)) (fun L9 _=>m.length-(intOf L9).toNat)
 case atStart=>exact⟨0,c5,rfl,aS _,Uq,⟨Q9.out,fun j hj=>by rw[CI.out j hj];simp⟩,bp⟩
 case round=>
  clear Uq Q9 CI bp gk Q8;obtain⟨q,aj,rfl,hq,HG,HC,HB⟩:=hrel;by_cases hlt:q<m.length
  ·have Jv:q<N:=by have:=HN.out;omega
   have Xy:(q:Int)<(N:Int):=by omega
   have l0:(q:Int)<(m.length:Int):=by omega
   obtain⟨x,hx⟩:∃x,x=l.getD q 0:=⟨_,rfl⟩
   obtain⟨y,hy⟩:∃y,y=m.getD q 0:=⟨_,rfl⟩
   have cg:wr.cell? ⟨G,q,none⟩=some (.int .i64 x):=by
    have:=HC.out.2 q Jv;rw[if_neg hO,Int.sub_zero,<-hx]at this;exact aG HG.out this
   obtain⟨g,o,rfl,ep⟩:=aKH (HE.out.later HB.out) hO;have cm:=ep q hlt;rw[<-hy]at cm;have Ra:=Oj.out q;have jc:=Hz.out q;rw[<-hx]at Ra;rw[<-hy]at jc;obtain⟨uj,ai⟩:=Ra;obtain⟨ib,aw⟩:=jc;have HX:=iH (And.intro hx hy);clear ep hx hy;go_wp2_with (first
    |(refine lP rfl 3 _ _ rfl G q (.int .i64 (x-y)) rfl rfl rfl 3 aj HG.out zK uVw ?_;intro w6 h6 k6;have jl:=iH h6;have np:=iH k6;clear h6 k6))
   go_roundw
   case rel=>
    refine⟨q+1,_,by simp,by omega,jl,⟨by rw[Array.size_setIfInBounds];exact HC.out.1,fun j hj=> ?_⟩,HB.out.trans (np.out.below Al.out)⟩;exact Ad5
   case measure=>simp[intOf];omega
  ·obtain rfl:q=m.length:=by omega
   have CJ:Hid (∀j,j<N->aj[j]? =some (.int .i64 (F.getD j 0))):=fun j hj=>by
    rw[HC.out.2 j hj,HF.out,aEA _ _ (by rw[<-HN.out.1];exact hj)];split
    ·rfl
    ·rw[aCR (l:=m) hO]
   obtain⟨Wo,Pz⟩:∃Wo,Wo=wr:=⟨_,rfl⟩
   subst Pz;go_wp2_with fail
   go_loopw [5] (fun dv wr=>∃(k:Nat),dv=.slice (some ⟨G,0,none⟩) k C/\Hid (k<=N/\oB F k=oB F N)/\Wo=wr) (fun dv _=>match dv with| .slice _ k _=>k|_=>0)
   case atStart=>exact⟨N,rfl,⟨aA _,rfl⟩,rfl⟩
   case round=>
    obtain⟨k,rfl,HK,rfl⟩:=hrel;have IW:(k:Int)<=100:=by have:=HK.out.1;omega
    cases k with
    |zero=>
     have gi:=cd.out;have qq:=Al.out;have hx:=(HB.out.block w.heap.size hO).trans be.out;have hy:=(HB.out.block (w.heap.size+1) hO).trans dp.out;have HZ:=iH ((HB.out.block (w.heap.size+2) hO).trans xg.out);have Ah:Wo.cell? ⟨w.heap.size,1,none⟩=some (.int .i64 (n:Int)):=aG hx rfl;have CF:Wo.cell? ⟨w.heap.size+1,1,none⟩=some (.int .i64 (p:Int)):=aG hy rfl;clear hx hy gi qq;go_wp2_with (first
      |(refine aV rfl 138 _ _ rfl (w.heap.size+2) #[.slice (some ⟨G,0,none⟩) 0 C,.int .i64 ((n:Int)-(p:Int))] rfl rfl 138 _ HZ.out dP rfl uAx ?_;intro w7 h7 k7))
     have gi:=cd.out;refine aN (bE rfl _ _ (w.heap.size+2) 138 _ (0,0) _ rfl h7 Tryz.underlying138 rfl dP) rfl ⟨_,by rw[Int.ofNat_sub HN.out.2.2.2.2],?_,(tW av.out HB.out).trans (k7.below hO)⟩;rw[<-HK.out.2,oB,eF];exact xK (k7.other HG.out uQx) uQx rfl (aS _) fun j hj=>by simp at hj
    |succ k=>
     have gd:((k+1:Nat):Int)-1=(k:Int):=by omega
     have Rb:((k+1:Nat):Int)>0:=by omega
     have ck:Wo.cell? ⟨G,k,none⟩=some (.int .i64 (F.getD k 0)):=aG HG.out (CJ.out k (by have:=HK.out.1;omega));obtain⟨z,hz⟩:∃z,z=F.getD k 0:=⟨_,rfl⟩
     rw[<-hz]at ck;have ei:(k:Int)<((k+1:Nat):Int):=by omega
     have CK:=iH hz;obtain⟨K1,Ur⟩:∃K1,K1=k+1:=⟨_,rfl⟩
     rw[<-Ur]at gd Rb ei HK IW;have rn:=iH Ur;have IX:k<K1:=by omega
     by_cases ez:z=0
     ·have hr:∀w,(Instr.slice 112 (.slice (some ⟨G,0,none⟩) K1 C) none (some (.int .i64 (k:Int))) none).run Tryz.prog w=.ok (.slice (some ⟨G,0,none⟩) k C) w:=fun w=>by
       rw[run_slice_h w 112 (some ⟨G,0,none⟩) K1 C il_sl _ _ hO (by have:=By.out;have:=HK.out.1;omega),aPb];simp[cR,sliced,kM,Addr.add]
      have MY:k<=C:=by have:=By.out;have:=HK.out.1;omega
      have IY:(k:Int)<=(C:Int):=by omega
      subst ez;clear hz Ur;go_wp2_with fail
      go_roundw
      case rel=>
       refine⟨k,rfl,⟨by have:=HK.out.1;omega,?_⟩,by first|rfl|trivial⟩;rw[<-HK.out.2,rn.out,oB,if_pos CK.out.symm]
      case measure=>show k<k+1;omega
     ·have gi:=cd.out
      have qq:=Al.out;have hx:=(HB.out.block w.heap.size hO).trans be.out;have hy:=(HB.out.block (w.heap.size+1) hO).trans dp.out;have HZ:=iH ((HB.out.block (w.heap.size+2) hO).trans xg.out);have Ah:Wo.cell? ⟨w.heap.size,1,none⟩=some (.int .i64 (n:Int)):=aG hx rfl;have CF:Wo.cell? ⟨w.heap.size+1,1,none⟩=some (.int .i64 (p:Int)):=aG hy rfl;clear hx hy gi qq hz;go_wp2_with (first
       |(refine aV rfl 138 _ _ rfl (w.heap.size+2) #[.slice (some ⟨G,0,none⟩) (k+1) C,.int .i64 ((n:Int)-(p:Int))] rfl rfl 138 _ HZ.out dP rfl uAx ?_;intro w7 h7 k7))
      have gi:=cd.out;refine aN (bE rfl _ _ (w.heap.size+2) 138 _ (0,0) _ rfl h7 Tryz.underlying138 rfl dP) rfl ⟨_,by rw[Int.ofNat_sub HN.out.2.2.2.2],?_,(tW av.out HB.out).trans (k7.below hO)⟩;subst Ur;have j1:oB F N=k+1:=by rw[<-HK.out.2,rn.out,oB,if_neg (by rw[<-CK.out];exact ez)]
      have an:(F.take (k+1)).length=k+1:=by rw[bQ,HF.out,aAt,<-HN.out.1];have:=HK.out.1;omega
      rw[j1];refine xK (k7.other HG.out uQx) uQx an.symm (by have:=By.out;have:=HK.out.1;omega) fun j hj=> ?_
      rw[an]at hj;rw[CJ.out j (by have:=HK.out.1;omega),List.getD_eq_getElem?_getD,List.getD_eq_getElem?_getD,List.getElem?_take_of_lt hj]
theorem aCN:(Tryz.prog.info? 140).map (·.size)=some 12:=by kernel_rfl
theorem aAO:(Tryz.prog.info? 34).map (·.size)=some 3:=by kernel_rfl
theorem aMc {a:Tr} (h:a.xs=[]):eW a=1:=by rw[qK,h];rfl
theorem aMO {a:Tr} (h:a.xs=[]):gJ a=1:=by rw[xJ,h];rfl
theorem fQ.nod {a:Tr} (h:fQ a):eW a<=16384:=h.1.2.2
theorem fQ.dep {a:Tr} (h:fQ a):gJ a<=64:=h.1.2.1
theorem fQ.nodL {a:Tr} (h:fQ a):Go.Proofs.YthmfgidbcghnfaaGreatDoor.cU a.xs<=16383:=by have:=h.nod;rw[qK]at this;omega
theorem fQ.depL {a:Tr} (h:fQ a):Go.Proofs.YthmfgidbcghnfaaGreatDoor.fP a.xs<=63:=by have:=h.dep;rw[xJ]at this;omega
theorem iQ (w:World) (x:Cel):Calls Tryz.prog 32 #[.agg (aL x)] w fun r w'=>r=.returned (.int .i64 x.k)/\Below w.heap.size w w':=by
 have HB:=iH (Below.newly' w (.cells (aL x) 37));go_enter Tryz.func32,Tryz.ntmps32;go_wp2
 go_ret;exact⟨rfl,HB.out⟩
theorem aGH {S:Nat->Prop} (w:World) (a:Tr) (x:Cel) (ha:fQ a) (hv:VAt S w a x):Calls Tryz.prog 36 #[.agg (aL x)] w fun r w'=>r=.returned (.int .i64 ((gJ a:Nat):Int))/\Below w.heap.size w w':=by
 obtain⟨w1,ag⟩:∃w1,w.alloc (.cells (aL x) 37)=w1:=⟨_,rfl⟩
 obtain⟨af,ai,al⟩:=fH ag;have cp:w1.cell? ⟨w.heap.size,3,none⟩=some (.pointer x.p):=aG ai rfl;have HB1:=iH af;by_cases h3:a.k<=3
 ·have hp:=hv.leaf h3
  rw[aMO (ha.leaf h3).2];rw[hp]at cp;clear ai af al hv ha hp;go_enter Tryz.func36,Tryz.ntmps36;exact Ah7
 ·obtain⟨b,l,hp,_,_,rc,mc,d,fr,s,n,h1,_,tm,h4,h5⟩:=(hv.later af).parts hO
  rw[hp]at cp;have HD:=iH (vY tm.size h4.size h1);have CL:=iH ha.depL;rw[xJ];rw[fM]at h5;obtain⟨da,dc,rfl,_⟩:=h5.shape;obtain⟨k,hk⟩:∃k,k=fP a.xs:=⟨_,rfl⟩
  rw[<-hk]at CL HD ⊢;have HT:=iH (aGR w1 da k dc (cU a.xs:Int) (by have:=CL.out;omega));clear ai af al hv ha hp h1 tm h4 h5 hk;go_enter Tryz.func36,Tryz.ntmps36;go_upto_region 1 with fail
  clear ag;go_wp2_with (first
   |(refine cO rfl 138 _ rfl b 10 rfl [.slice da k dc,.int .i64 (cU a.xs:Int)] _ HD.out Tryz.underlying138 rfl dP ?_)
   |(go_at_call 62;refine HT.out.mono ?_;rintro r w2 ⟨rfl,ah⟩;have aq:=iH ah;clear ah))
  go_ret;exact⟨by first|rfl|simp,tW HB1.out aq.out⟩
theorem aGG {S:Nat->Prop} (w:World) (a:Tr) (x:Cel) (ha:fQ a) (hv:VAt S w a x):Calls Tryz.prog 38 #[.agg (aL x)] w fun r w'=>r=.returned (.int .i64 ((eW a:Nat):Int))/\Below w.heap.size w w':=by
 obtain⟨w1,ag⟩:∃w1,w.alloc (.cells (aL x) 37)=w1:=⟨_,rfl⟩
 obtain⟨af,ai,al⟩:=fH ag;have cp:w1.cell? ⟨w.heap.size,3,none⟩=some (.pointer x.p):=aG ai rfl;have HB1:=iH af;by_cases h3:a.k<=3
 ·have hp:=hv.leaf h3
  rw[aMc (ha.leaf h3).2];rw[hp]at cp;clear ai af al hv ha hp;go_enter Tryz.func38,Tryz.ntmps38;exact Ah7
 ·obtain⟨b,l,hp,_,_,rc,mc,d,fr,s,n,h1,_,tm,h4,h5⟩:=(hv.later af).parts hO
  rw[hp]at cp;have cn:w1.cell? ⟨b,11,none⟩=some (.int .i64 (cU a.xs:Int)):=vY tm.size h4.size h1 1 _ rfl;have Ds:(cU a.xs:Int)<=100000:=by have:=ha.nodL;omega
  have Lc:(0:Int)<=(cU a.xs:Int):=by omega
  obtain⟨k,hk⟩:∃k:Nat,k=cU a.xs:=⟨_,rfl⟩
  rw[qK];rw[<-hk]at cn Ds Lc ⊢;clear ai af al hv ha hp h1 tm h4 h5 hk;go_enter Tryz.func38,Tryz.ntmps38;go_upto_region 1 with fail
  clear ag;go_wp2
  go_ret;exact⟨by first|rfl|(simp;omega),HB1.out⟩
theorem tN {S:Nat->Prop} (w:World) (a:Tr) (x:Cel) (ha:fQ a) (hv:VAt S w a x):Calls Tryz.prog 69 #[.agg (aL x)] w fun r w'=>∃d,r=.returned (.agg #[d,.int .i64 ((eW a:Nat):Int)])/\bY (fun g=>w.heap.size<=g) w' 1 d (iv (tal [a])) (tal [a]).length/\Below w.heap.size w w':=by
 obtain⟨i,hi,hz,h1,h2⟩:=dO vX;obtain⟨w1,ag⟩:∃w1,(w.alloc (.cells (aL x) 37)).alloc (.cells #[.slice none 0 0,.int .i64 0] 138)=w1:=⟨_,rfl⟩
 obtain⟨af,ai,aw,al⟩:=fL ag;have HX1:=iH ai;have bl:=iH aw;have HB1:=iH af;have HS1:=iH al;have HI:=iH (And.intro hi (And.intro hz (And.intro h1 h2)));have HD:=iH (aGH w1 a x ha (hv.later af));have HN:=iH (fun W (hb:Below w.heap.size w W)=>aGG W a x ha (hv.later hb));obtain⟨k,hk⟩:∃k,k=gJ a:=⟨_,rfl⟩
 have HK:Hid (k=gJ a/\1<=k/\k<=64):=⟨hk,by rw[hk];exact zU a,by rw[hk];exact ha.dep⟩
 rw[<-hk]at HD;have IZ:(k:Int)<=64:=by have:=HK.out;omega
 have gd:(1:Int)<=(k:Int):=by have:=HK.out;omega
 obtain⟨j,hj⟩:∃j:Nat,k=j+1:=⟨k-1,by have:=HK.out;omega⟩
 have AQ:(k:Int)-1=(j:Int):=by omega
 have qt:(j:Int)<(k:Int):=by omega
 have JA:j<k:=by omega
 have HJ:=iH hj;obtain⟨q,hq⟩:∃q,q=eW a:=⟨_,rfl⟩
 rw[<-hq]at HN ⊢;clear ai aw af al hi hz h1 h2 hk hv ha hj hq;go_enter Tryz.func69,Tryz.ntmps69;go_upto_region 1 with fail
 clear ag;go_upto_region 2 with(first
  |(refine aW rfl 37 _ rfl w.heap.size rfl 37 _ _ _ HX1.out Tryz.underlying37 rfl aF ?_)
  |(go_at_call 36;refine HD.out.mono ?_;rintro r w2 ⟨rfl,ah⟩;have aq:=iH ah;clear ah)
  |(refine nI _ rfl _ _ 112 rfl 3 i (.int .i64 0) 1 Tryz.underlying112 HI.out.1 HI.out.2.1 HI.out.2.2.1 .i64 .i64 k rfl rfl uOv (by have:=HK.out;omega) ?_))
 obtain⟨w4,j0⟩:∃w4,w4=w2.alloc (.cells (madeCells #[.int .i64 0] k) 3):=⟨_,rfl⟩
 have bh:Below w2.heap.size w2 w4:=by rw[j0];exact Below.newly' _ _
 have qf:Hid (w4.heap[w2.heap.size]? =some (.cells (madeCells #[.int .i64 0] k) 3 (0,0))):=by show _=_;rw[j0];exact aC _ _
 have bg:Hid (Below w1.heap.size w1 w4):=tW aq.out bh;rw[<-j0];obtain⟨G,hG⟩:∃G,G=w2.heap.size:=⟨_,rfl⟩
 have Cq:Hid (w1.heap.size<=G):=by show _<=_;rw[hG];exact aq.out.size
 rw[<-hG]at qf ⊢;have cg:w4.cell? ⟨G,j,none⟩=some (.int .i64 0):=aG qf.out (by rw[aBy _ _ _ hO];simp[Value.cells,Nat.mod_one]);clear j0 bh hG HD aq;go_wp2_with (first
  |(refine lP rfl 3 _ _ rfl G j (.int .i64 1) rfl rfl rfl 3 _ qf.out zK (by rw[oV];have:=HJ.out;omega) ?_;intro w5 h5 k5;have Al:=iH h5;have bp:=iH (bg.out.trans (k5.below Cq.out));clear h5 k5)
  |(refine aW rfl 37 _ rfl w.heap.size rfl 37 _ _ _ ((bp.out.block _ uBu).trans HX1.out) Tryz.underlying37 rfl aF ?_)
  |(go_at_call 38;refine(HN.out _ (tW HB1.out bp.out)).mono ?_;rintro r w6 ⟨rfl,nt⟩;have ek:=iH (tW bp.out nt);have jl:=iH ((nt.block G (gZ Al.out)).trans Al.out);clear nt)
  |(refine aV rfl 138 _ _ rfl (w.heap.size+1) #[.slice (some ⟨G,0,none⟩) k k,.int .i64 (q:Int)] rfl rfl 138 _ ((ek.out.block _ uBu).trans bl.out) dP rfl uAx ?_;intro w7 h7 k7))
 have qq:=Cq.out;have al:=HS1.out;refine aN (bE rfl _ _ (w.heap.size+1) 138 _ (0,0) _ rfl h7 Tryz.underlying138 rfl dP) rfl ⟨_,rfl,?_,(tW HB1.out ek.out).trans (k7.below hO)⟩;have ht:tal [a]=List.replicate j 0++[1]:=by rw[aQO,<-HK.out.1,HJ.out];rfl
 rw[ht];have hl:(List.replicate j (0:Int)++[1]).length=k:=by rw[HJ.out];simp
 refine xK (k7.other jl.out hO) hO hl.symm (aA _) fun i hi=> ?_
 rw[hl]at hi;rw[Array.getElem?_setIfInBounds];by_cases e:j=i
 ·subst e
  rw[if_pos rfl,if_pos (by rw[oV];have:=HJ.out;simp;omega)];simp
 ·rw[if_neg e,aBy _ _ _ hO]
  have:i<j:=by have:=HJ.out;omega
  simp[Value.cells,Nat.mod_one,List.getElem?_append_left,this]
def rC (k s:Int):Int:=if s=0\/s=1\/s=2 then if k=s+4 then 0 else 3 else 1
theorem aGF (w:World) (x:Cel) (s i:Int) (u:ByteArray):Calls Tryz.prog 244 #[.agg (aL x),.agg #[.int .i64 s,.int .i64 i,.string u]] w fun r w'=>r=.returned (.int .i64 (rC x.k s))/\Below w.heap.size w w':=by
 obtain⟨w1,ag⟩:∃w1,(w.alloc (.cells (aL x) 37)).alloc (.cells #[.int .i64 s,.int .i64 i,.string u] 99)=w1:=⟨_,rfl⟩
 obtain⟨af,ai,aw,al⟩:=fL ag;have HX1:=iH ai;have HB1:=iH af;have HK:=iH (iQ w1 x);have cs:w1.cell? ⟨w.heap.size+1,0,none⟩=some (.int .i64 s):=aG aw rfl;clear ai aw af al;by_cases h0:s=0
 ·subst h0
  by_cases hk:x.k=4<;>(
   have e:rC x.k 0=if x.k=4 then 0 else 3:=by simp[rC]
   rw[e];first|rw[if_pos hk]|rw[if_neg hk]
   clear e;go_enter Tryz.func244,Tryz.ntmps244;go_upto_region 1 with fail
   clear ag;go_wp2_with (first
    |(refine aW rfl 37 _ rfl w.heap.size rfl 37 _ _ _ HX1.out Tryz.underlying37 rfl aF ?_)
    |(go_at_call 32;refine HK.out.mono ?_;rintro r w2 ⟨rfl,ah⟩;have aq:=iH ah;clear ah))
   go_ret;exact⟨rfl,tW HB1.out aq.out⟩)
 by_cases h1:s=1
 ·subst h1
  by_cases hk:x.k=5<;>(
   have e:rC x.k 1=if x.k=5 then 0 else 3:=by simp[rC]
   rw[e];first|rw[if_pos hk]|rw[if_neg hk]
   clear e;go_enter Tryz.func244,Tryz.ntmps244;go_upto_region 1 with fail
   clear ag;go_wp2_with (first
    |(refine aW rfl 37 _ rfl w.heap.size rfl 37 _ _ _ HX1.out Tryz.underlying37 rfl aF ?_)
    |(go_at_call 32;refine HK.out.mono ?_;rintro r w2 ⟨rfl,ah⟩;have aq:=iH ah;clear ah))
   go_ret;exact⟨rfl,tW HB1.out aq.out⟩)
 by_cases h2:s=2
 ·subst h2
  by_cases hk:x.k=6<;>(
   have e:rC x.k 2=if x.k=6 then 0 else 3:=by simp[rC]
   rw[e];first|rw[if_pos hk]|rw[if_neg hk]
   clear e;go_enter Tryz.func244,Tryz.ntmps244;go_upto_region 1 with fail
   clear ag;go_wp2_with (first
    |(refine aW rfl 37 _ rfl w.heap.size rfl 37 _ _ _ HX1.out Tryz.underlying37 rfl aF ?_)
    |(go_at_call 32;refine HK.out.mono ?_;rintro r w2 ⟨rfl,ah⟩;have aq:=iH ah;clear ah))
   go_ret;exact⟨rfl,tW HB1.out aq.out⟩)
 ·have e:rC x.k s=1:=by simp[rC,h0,h1,h2]
  rw[e];clear e;go_enter Tryz.func244,Tryz.ntmps244;go_upto_region 1 with fail
  clear ag;go_wp2_with fail
  go_ret;exact⟨rfl,HB1.out⟩
theorem aMm {a:Tr} {l:List Cel} (ha:fQ a) (hl:l.length=a.xs.length) (h4:4<=a.k):(sP a.k l).length+(nR a.k a.ks a.xs l).length=a.xs.length/\(sP a.k l).length<=16383/\(nR a.k a.ks a.xs l).length<=16383:=by
 have hn:=ha.len;have hk:=ha.kind;by_cases h:a.k=4
 ·have e:qD a.k a.ks a.xs=[]:=by rw[qD,if_neg hO,if_neg hO]
  rw[sP,if_pos h,nR,e];simp;omega
 ·have hm:=(ha.mkeys hO).1
  rw[sP,if_neg h,nR,kP,hm,hl];simp;omega
end Go.Proofs.YthmfgidbcghnfaaGreatDoor
