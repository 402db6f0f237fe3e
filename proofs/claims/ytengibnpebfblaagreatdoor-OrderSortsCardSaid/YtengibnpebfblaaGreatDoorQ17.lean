import Derived.Test.YtengibnpebfblaaGreatDoorQ0
import Derived.Test.YtengibnpebfblaaGreatDoorQ16
set_option maxRecDepth 1000000
set_option maxHeartbeats 8000000
set_option linter.unusedSimpArgs false
namespace Go.Proofs.YtengibnpebfblaaGreatDoor
open Go.RowKit
theorem aMS (k:ByteArray) (x:Cel):lD [] k x=[(k,x)]:=rfl
theorem aJe (e:Ent) (x:Cel):lD [e] e.1 x=[(e.1,x)]:=by
 simp[lD,mG,qV,gB]
theorem aLa {a b:Ent} {M:List Ent} (k:ByteArray) (x:Cel) (h:iO (a::b::M)):∃c d N,lD (a::b::M) k x=c::d::N:=by
 have hl:=aAV h k x;have h2:2<=(lD (a::b::M) k x).length:=by
  rw[hl];split<;>simp
 match lD (a::b::M) k x,h2 with
 |[],h=>simp at h
 |[_],h=>simp at h
 |c::d::N,_=>exact⟨c,d,N,rfl⟩
theorem aNY (L:List Ent) (k:ByteArray) (x:Cel):lD L k x≠[]:=by
 unfold lD;simp
theorem aOx (e:Ent):iO [e]:=iO.one e
theorem aLj (hs:ByteArray->Nat) (f:Nat) (hW:aCd hs f):aI8 hs f:=by
 intro S w L p b k x h hL hn he hT;obtain⟨lv,hlv⟩:∃lv:Nat,lv=13-f:=⟨_,rfl⟩
 unfold aCd at hW;simp only[<-hlv]at hW ⊢;have HWI:=iH hW;have HPLC:=iH (aLk hs f);obtain⟨pp,hpp⟩:∃pp,pp=p.getD (none,none):=⟨_,rfl⟩
 rw[<-hpp];obtain⟨w1,hw1⟩:∃w1,(w.alloc (.cells (plc pp) 186)).alloc (.cells #[.pointer none,.pointer none] 186)=w1:=⟨_,rfl⟩
 obtain⟨hb1,hx1,hy1,hs1⟩:=kF hw1;have HX1:=iH hx1;have HY1:=iH hy1;have HB1:=iH hb1;have HS1:=iH hs1;have HE:=iH he;have HTT:=iH hT;clear hlv hW;rcases L with _|⟨e,_|⟨e2,M⟩⟩
 ·have hp:p=none:=h
  rw[hp]at hpp;obtain rfl:pp=(none,none):=hpp;clear hp;have ca0:w1.cell? ⟨w.heap.size,0,none⟩=some (.pointer none):=aK hx1 rfl;have ca1:w1.cell? ⟨w.heap.size,1,none⟩=some (.pointer none):=aK hx1 rfl;clear hL hn he hx1 hy1 hb1 hs1 hT h;unfold pv;go_enter Tryz.func151,Tryz.ntmps151;go_upto_region 3 with fail
  clear hw1;go_quiet (fail)
  obtain⟨w2,hw2⟩:∃w2,w2=w1.drewN nq:=⟨_,rfl⟩
  have HY2:Hid (w2.heap[w.heap.size+1]? =some (.cells #[.pointer none,.pointer none] 186 (0,0))):=by show _=_;rw[hw2];exact HY1.out
  have HB2:Hid (Below w.heap.size w w2):=by show Below _ _ _;rw[hw2];exact Below.drewMany HB1.out _
  rw[<-hw2];clear hw2 ca0 ca1;go_wp2_with (refine bV rfl 186 _ _ rfl (w.heap.size+1) (plc (some b,none)) rfl rfl 186 _ HY2.out dJ rfl (gM (some b,none)) ?_;intro w6 h6 k6)
  exact bF (cE rfl _ _ (w.heap.size+1) 186 _ (0,0) _ rfl h6 Tryz.underlying186 rfl dJ) rfl ⟨(some b,none),rfl,⟨b,rfl,(HE.out.later (HB2.out.trans (k6.below uAu))).weak fun _ h=>.inl h⟩,HB2.out.trans (k6.below uAu)⟩
 ·obtain⟨b',hp,he'⟩:=h
  rw[hp]at hpp;obtain rfl:pp=(some b',none):=hpp;clear hp;have ca0:w1.cell? ⟨w.heap.size,0,none⟩=some (.pointer (some ⟨b',0,none⟩)):=aK hx1 rfl;have ca1:w1.cell? ⟨w.heap.size,1,none⟩=some (.pointer none):=aK hx1 rfl;have ck:w1.cell? ⟨b,0,none⟩=some (.string k):=by
   obtain⟨_,fr,h⟩:=he.later hb1;exact aK h rfl
  have ck':w1.cell? ⟨b',0,none⟩=some (.string e.1):=by
   obtain⟨_,fr,h⟩:=he'.later hb1;exact aK h rfl
  have HE':=iH he';have HHN:=iH (And.intro hL hn);clear he he' hx1 hy1 hb1 hs1 hT hL hn;by_cases hk:e.1=k
  ·have hkk:(e.1.toList==k.toList)=true:=by rw[hk];simp
   have HKK:=iH hk;clear hk;unfold pv;go_enter Tryz.func151,Tryz.ntmps151;go_upto_region 3 with fail
   clear hw1;go_quiet (fail)
   obtain⟨w2,hw2⟩:∃w2,w2=w1.drewN nq:=⟨_,rfl⟩
   have HY2:Hid (w2.heap[w.heap.size+1]? =some (.cells #[.pointer none,.pointer none] 186 (0,0))):=by show _=_;rw[hw2];exact HY1.out
   have HB2:Hid (Below w.heap.size w w2):=by show Below _ _ _;rw[hw2];exact Below.drewMany HB1.out _
   rw[<-hw2];clear hw2 ca0 ca1 ck ck';go_wp2_with (refine bV rfl 186 _ _ rfl (w.heap.size+1) (plc (some b,none)) rfl rfl 186 _ HY2.out dJ rfl (gM (some b,none)) ?_;intro w6 h6 k6)
   refine bF (cE rfl _ _ (w.heap.size+1) 186 _ (0,0) _ rfl h6 Tryz.underlying186 rfl dJ) rfl ⟨(some b,none),rfl,?_,HB2.out.trans (k6.below uAu)⟩;have hkk:=HKK.out;subst hkk;rw[aJe];exact⟨b,rfl,(HE.out.later (HB2.out.trans (k6.below uAu))).weak fun _ h=>.inl h⟩
  ·have hkk:(e.1.toList==k.toList)=false:=bJ.2 fun h=>hk (uV (by rw[eJ,eJ]at h;exact h))
   have HKK:=iH hk;clear hk;unfold pv;go_enter Tryz.func151,Tryz.ntmps151;go_upto_region 3 with fail
   clear hw1;go_quiet (fail)
   obtain⟨w2,hw2⟩:∃w2,w2=w1.drewN nq:=⟨_,rfl⟩
   have HY2:Hid (w2.heap[w.heap.size+1]? =some (.cells #[.pointer none,.pointer none] 186 (0,0))):=by show _=_;rw[hw2];exact HY1.out
   have HB2:Hid (Below w.heap.size w w2):=by show Below _ _ _;rw[hw2];exact Below.drewMany HB1.out _
   have hsz2:Hid (w.heap.size+2<=w2.heap.size):=by show _<=_;rw[hw2];exact jZ HS1.out.symm
   have cb0:w2.cell? ⟨w.heap.size,0,none⟩=some (.pointer (some ⟨b',0,none⟩)):=by rw[hw2];exact ca0
   rw[<-hw2];have HA:=iH (HWI.out (fun g=>S g/\g<w.heap.size) w2 [] aJI b' e.1 e.2 (dF.zero _ _ _ _) iO.nil uBu (HE'.out.old.later HB2.out) (HTT.out.below HB2.out));unfold aJI pv at HA;clear hw2 ca0 ca1 ck ck';go_wp2_with (first
    |(go_at_call 137;(with_reducible refine HA.out.mono ?_);rintro r w3 ⟨c3,rfl,hn3,hb3⟩;have HB3:=iH (tW HB2.out hb3);have HC:=iH (HWI.out _ w3 _ c3 b k x hn3 (iO.nil.ins _ _) (by rw[aMS];simp) ((HE.out.old.later HB3.out).weak (S':=fun g=>(S g/\g<w.heap.size)\/w2.heap.size<=g) (fun _ h=>.inl h)) (HTT.out.below HB3.out));unfold pv at HC;have HY3:=iH ((hb3.block _ (by have:=hsz2.out;omega)).trans HY2.out);have HL3:=iH hb3.size;clear hn3 hb3)
    |(go_at_call 137;(with_reducible refine HC.out.mono ?_);rintro r w4 ⟨c4,rfl,hn4,hb4⟩;have HB4:=iH (tW HB3.out hb4);have HD:=iH (HPLC.out _ w4 _ c4 hn4 (aNY _ _ _) (HTT.out.below HB4.out));have HY4:=iH ((hb4.block _ (by have:=hsz2.out;have:=HL3.out;omega)).trans HY3.out);have HL4:=iH hb4.size;clear hn4 hb4)
    |(go_at_call 179;(with_reducible refine HD.out.mono ?_);rintro r w5 ⟨p5,rfl,hp5,hb5⟩;have HP5:=iH hp5;have HB5:=iH (tW HB4.out hb5);have HY5:=iH ((hb5.block _ (by have:=hsz2.out;have:=HL3.out;have:=HL4.out;omega)).trans HY4.out);clear hp5 hb5)
    |(refine bV rfl 186 _ _ rfl (w.heap.size+1) (plc p5) rfl rfl 186 _ HY5.out dJ rfl (gM p5) ?_;intro w6 h6 k6))
   refine bF (cE rfl _ _ (w.heap.size+1) 186 _ (0,0) _ rfl h6 Tryz.underlying186 rfl dJ) rfl ⟨p5,rfl,?_,HB5.out.trans (k6.below uAu)⟩;have h2:=hsz2.out;have h3:=HL3.out;have h4:=HL4.out;exact(HP5.out.kp (Kp.only k6 uAu)).weak fun g hg=>by
    rcases hg with((hg|hg)|hg)|hg
    ·exact .inl hg.1
    ·exact .inr uAu
    ·exact .inr uAu
    ·exact .inr uAu
 ·obtain⟨g,c,fr,hp,hg,hgw,hnd⟩:=h
  rw[hp]at hpp;obtain rfl:pp=(none,some g):=hpp;clear hp;have hgl:g<w.heap.size:=(gZ hgw)
  have ca1:w1.cell? ⟨w.heap.size,1,none⟩=some (.pointer (some ⟨g,0,none⟩)):=aK hx1 rfl;have hgw1:w1.heap[g]? =some (.cells c 96 fr):=(hb1.block _ hgl).trans hgw;obtain⟨d1,d2,M2,hdd⟩:=aLa k x hL;have HSZ:=iH hnd.size;have HA:=iH (HWI.out (fun g=>S g/\g<w.heap.size) w1 _ c b k x (hnd.old.later hb1) hL hn (he.old.later hb1) (hT.below hb1));unfold pv at HA;have HG:=iH hgw1;have HDD:=iH hdd;clear hnd hgw hgw1 he hx1 hy1 hb1 hs1 hT hL hn hg hdd;unfold pv;go_enter Tryz.func151,Tryz.ntmps151;go_upto_region 3 with(first
   |(refine bR uAz 96 _ rfl g rfl 96 _ _ _ HG.out Tryz.underlying96 rfl (by rw[HSZ.out];exact iI) ?_)
   |(go_at_call 137;(with_reducible refine HA.out.mono ?_);rintro r w4 ⟨c4,rfl,hn4,hb4⟩;have HB4:=iH (tW HB1.out hb4);have HD:=iH (HPLC.out _ w4 _ c4 hn4 (by rw[HDD.out];simp) (HTT.out.below HB4.out));have HY4:=iH ((hb4.block _ uBx).trans HY1.out);have HL4:=iH hb4.size;clear hn4 hb4)
   |(go_at_call 179;(with_reducible refine HD.out.mono ?_);rintro r w5 ⟨p5,rfl,hp5,hb5⟩;have HP5:=iH hp5;have HB5:=iH (tW HB4.out hb5);have HY5:=iH ((hb5.block _ (by have:=HS1.out;have:=HL4.out;omega)).trans HY4.out);clear hp5 hb5)
   |(refine bV rfl 186 _ _ rfl (w.heap.size+1) (plc p5) rfl rfl 186 _ HY5.out dJ rfl (gM p5) ?_;intro w6 h6 k6))
  refine bF (cE rfl _ _ (w.heap.size+1) 186 _ (0,0) _ rfl h6 Tryz.underlying186 rfl dJ) rfl ⟨p5,rfl,?_,HB5.out.trans (k6.below uAu)⟩;have h2:=HS1.out;have h4:=HL4.out;exact(HP5.out.kp (Kp.only k6 uAu)).weak fun g hg=>by
   rcases hg with(hg|hg)|hg
   ·exact .inl hg.1
   ·exact .inr uAu
   ·exact .inr uAu
theorem AtR.weak {S S':Nat->Prop} {W:World} {R:Rg Pl} {c:Array Value} (h:AtR S W R c) (hS:∀g,S g->S' g):AtR S' W R c:=by
 obtain⟨v,rfl,h2⟩:=h;exact⟨v,rfl,h2.weak hS⟩
theorem AtR.parts {S:Nat->Prop} {W:World} {R:Rg Pl} {c:Array Value} (h:AtR S W R c):∃(b:Nat) (a:Option Addr) (n m:Nat),c=#[.int .u32 (b:Int),.slice a n m]:=by
 obtain⟨a,n,e⟩:=h.shape;exact⟨_,_,_,_,e⟩
theorem aJh (hs:ByteArray->Nat) (hlt:∀k,hs k<18446744073709551616) (f:Nat) (hf:f<=12) (ih:aI8 hs f):aCd hs (f+1):=by
 intro S w L c b k x h hL hn he hT;obtain⟨lv,hlv⟩:∃lv:Nat,lv=12-f:=⟨_,rfl⟩
 have e13:(13-(f+1):Nat)=lv:=by omega
 have e14:(13-f:Nat)=lv+1:=by omega
 rw[e13];obtain⟨b0,v,R,rfl,hrow,hpl⟩:=h.row;obtain⟨i,hi⟩:∃i,i=iZ (hs k) (lv:Int):=⟨_,rfl⟩
 have hi32:i<32:=by rw[hi];exact sM _ _
 have HCH:=iH (fun W=>aD5 (hs k) (lv:Int) (hlt k) W);rw[<-hi]at HCH;have HGET:=iH (fun W (hb:Below w.heap.size w W)=>aKC W R #[b0,v] i hi32 (hrow.later hb));obtain⟨bb,rfl⟩:∃bb:Nat,b0=.int .u32 (bb:Int):=by obtain⟨v',e,_⟩:=hrow;simp only[gK,eH]at e;exact⟨_,e.1⟩
 obtain⟨va,vn,vc,rfl⟩:∃a n c,v=.slice a n c:=by obtain⟨a,n,e⟩:=hrow.shape;simp only[gK,eH]at e;exact⟨_,_,_,e.2.1⟩
 obtain⟨w1,hw1⟩:∃w1,(w.alloc (.cells #[.int .u32 (bb:Int),.slice va vn vc,.slice none 0 0] 96)).alloc (.cells #[.int .u32 0,.slice none 0 0,.slice none 0 0] 96)=w1:=⟨_,rfl⟩
 obtain⟨hb1,hx1,hy1,hs1⟩:=kF hw1;have HX1:=iH hx1;have HY1:=iH hy1;have HB1:=iH hb1;have HS1:=iH hs1;have HTT:=iH hT;obtain⟨po,hpo⟩:∃po,po=(R i).getD (none,none):=⟨_,rfl⟩
 rw[<-hpo]at HGET;have hch:chE hs lv i (lD L k x)=lD (chE hs lv i L) k x:=aG9 (by rw[hi]);have hoth:∀j,j≠i->chE hs lv j (lD L k x)=chE hs lv j L:=fun j hj=>aEn hL (fun e=>hj (by rw[hi,e]))
 rw[<-hlv]at hpl;have HPL:=iH hpl;have HCE:=iH hch;have HOTH:=iH hoth;have HPW:Hid (∀V,Below w.heap.size w V->Calls Tryz.prog 151 #[.agg (plc po),.int .i64 ((lv:Int)+1),.pointer (some ⟨b,0,none⟩)] V fun r w'=>∃p',r=.returned (.agg (plc p'))/\oY hs (fun g=>(S g/\g<w.heap.size)\/V.heap.size<=g) w' (dF hs (fun g=>(S g/\g<w.heap.size)\/V.heap.size<=g) f w') (lD (chE hs lv i L) k x) (some p')/\Below V.heap.size V w'):=fun V hV=>by
  have h1:=ih (fun g=>S g/\g<w.heap.size) V _ (R i) b k x ((hpl i hi32).old.later hV) (hL.ch hs lv i) (aG aAb hn) (he.old.later hV) (hT.below hV);rw[e14,<-hpo,show(((lv+1:Nat):Nat):Int)=(lv:Int)+1 by omega]at h1;unfold pv at h1;exact h1
 have HSET:=iH (fun W (hb:Below w.heap.size w W) p=>aNM W R #[.int .u32 (bb:Int),.slice va vn vc] i hi32 p (hrow.later hb));have hlv12:(lv:Int)<=12:=by omega
 have hn13:((lv:Int)==13)=false:=bJ.2 uAu;have HLVF:=iH hlv;have HWR:Hid (IntKind.i64.wrap ((lv:Int)+1)=(lv:Int)+1):=by show _=_;rw[gE];omega
 have hk1:w1.cell? ⟨b,1,none⟩=some (.int .u64 (hs k:Nat)):=by
  obtain⟨_,fr,h⟩:=he.later hb1;exact aK h rfl
 obtain⟨h1,u1⟩:∃x:Nat,x=hs k:=⟨_,rfl⟩
 rw[<-u1]at HCH hk1;clear h hrow hpl hch hoth hx1 hy1 hb1 hs1 hi hL hn ih u1 hlv e13 e14 he hT hpo hf;unfold pv;go_enter Tryz.func137,Tryz.ntmps137;go_upto_region 7 with fail
 clear hw1;go_upto_region 9 with(first
  |(go_at_call 132;refine(HCH.out _).mono ?_;rintro r wc ⟨rfl,hwc⟩;obtain rfl:=hwc.symm)
  |(refine dA rfl 93 _ rfl w.heap.size 0 rfl [.int .u32 (bb:Int),.slice va vn vc] _ (jM HX1.out) Tryz.underlying93 rfl iP ?_)
  |(go_at_call 131;refine(HGET.out _ HB1.out).mono ?_;rintro r w2 ⟨rfl,hb⟩;have HX2:=iH ((hb.block _ uBx).trans HX1.out);have HY2:=iH ((hb.block _ uBx).trans HY1.out);have HB2:=iH (tW HB1.out hb);have HS2:Hid (w.heap.size+2<=w2.heap.size):=uEv;clear hb)
  |(refine bV rfl 186 _ _ rfl w2.heap.size (plc po) rfl rfl 186 (plc (none,none)) (aF w2 _) dJ rfl (gM _) ?_;intro w3 h3 k3;have HP3:=iH h3;have hbb:Below w2.heap.size w2 w3:=(Below.newly' w2 _).trans (k3.below (aE _));have HX3:=iH ((hbb.block _ uBw).trans HX2.out);have HY3:=iH ((hbb.block _ uBw).trans HY2.out);have HB3:=iH (tW HB2.out hbb);have HS3:Hid (w2.heap.size<w3.heap.size):=(gZ h3);obtain⟨X,hX⟩:∃X,X=w2.heap.size:=⟨_,rfl⟩;rw[<-hX]at HP3 HS3 ⊢;have HXX:Hid (w.heap.size+2<=X):=uGw;clear h3 k3 hbb hX))
 have HKS:Hid (∀V,Below w3.heap.size w3 V->(V.heap[w.heap.size]? =some (.cells #[.int .u32 (bb:Int),.slice va vn vc,.slice none 0 0] 96 (0,0))/\V.heap[X]? =some (.cells (plc po) 186 (0,0)))):=fun V hV=>
  ⟨(hV.block _ uCx).trans HX3.out,(hV.block _ HS3.out).trans HP3.out⟩
 have HW:Hid (Below w3.heap.size w3 w3.drew):=bE w3;refine bL (S:=(fun V=>V.heap[w.heap.size]? =some (.cells #[.int .u32 (bb:Int),.slice va vn vc,.slice none 0 0] 96 (0,0))/\V.heap[X]? =some (.cells (plc po) 186 (0,0)))) [10] hO uAw (fun hHeld=> ?_);refine tkA 0 54 (h:=?_);refine tyA 1 55 (hy:=bT uAz 93 _ rfl w.heap.size 0 rfl #[.int .u32 (bb:Int),.slice va vn vc] _ (fun w hw=>(jM hw.1)) Tryz.underlying93 rfl (by exact iP)) (h:=?_);(try simp only[pq]);refine tkA 2 56 (h:=?_);refine tyA 3 57 (hy:=aP uAz 186 _ rfl X rfl (plc po) 186 (0,0) _ (fun w hw=>hw.2) Tryz.underlying186 rfl (by exact dJ)) (h:=?_);(try simp only[pq]);refine tkA 4 58 (h:=?_);refine tkA 5 59 (h:=?_);(try simp only[pq]);refine tkA 6 60 (h:=?_);(try simp only[pq]);refine tkO 7 (some 61) (h:=fun K hK=> ?_);go_simp;go_at_call 151;rw[HWR.out];refine(HPW.out _ (tW HB3.out HW.out)).mono ?_;rintro r w5 ⟨p5,rfl,hp5,hb⟩;have HP5:=iH hp5;have HW5:=iH HW.out.size;replace HW:=iH (tW HW.out hb);have HWA:=iH HW.out;have HWL:=iH HW.out.size;clear hb hp5;dsimp only;refine hK.out _ _ uAw (fun hHeld=> ?_);clear hK K;(try simp only[pq]);refine tkO 8 (some 62) (h:=fun K hK=> ?_);go_simp;go_at_call 150;refine(HSET.out _ (tW HB3.out HW.out) p5).mono ?_;rintro r w6 ⟨c6,rfl,hr6,hb⟩;have HR6:=iH hr6;replace HW:=iH (tW HW.out hb);have HB6:=iH hb;obtain⟨b6,a6,n6,m6,rfl⟩:=hr6.parts;clear hb hr6;dsimp only;refine hK.out _ _ uAw (fun hHeld=> ?_);clear hK K;(try simp only[pq]);refine tkA 9 63 (h:=?_);(try simp only[pq]);refine tkU 10 none (h:=fun K hK=> ?_);rw[if_pos uAz];refine kH 96 _ _ rfl (w.heap.size+1) #[.int .u32 (b6:Int),.slice a6 n6 m6,.slice none 0 0] rfl rfl 96 #[.int .u32 0,.slice none 0 0,.slice none 0 0] ((HW.out.block _ uCx).trans HY3.out) iI rfl uAy ?_;intro w7 h7 k7;refine hK.out _ _ ?_
 clear hK K;(try simp only[pq]);refine bK hO ?_ _;clear hHeld;go_wp2_with fail
 refine bF (cE rfl _ _ (w.heap.size+1) 96 _ (0,0) _ rfl h7 Tryz.underlying96 rfl iI) rfl ⟨_,rfl,?_,(tW HB3.out HW.out).trans (k7.below uAu)⟩;have hs1:=HS3.out;have hs2:=HXX.out;have hs3:=HWL.out;have hs4:=HW5.out;have hnode:=dF.of_row (hs:=hs) (f:=f) (L:=lD L k x) (S:=fun g=>(S g/\g<w.heap.size)\/w.heap.size+2<=g) (HR6.out.weak fun g hg=>.inr uAu) (fun j hj=>by
  rw[<-HLVF.out];unfold aF5;by_cases hji:j=i
  ·subst hji
   rw[if_pos rfl,HCE.out];exact(HP5.out.later HB6.out).weak fun g hg=>hg.imp_right fun hg=>by have:=hg;omega
  ·rw[if_neg hji,HOTH.out j hji]
   exact((HPL.out j hj).old.later (tW HB3.out HW.out)).weak fun g hg=>.inl hg)
 obtain⟨b7,v7,e7,hnode⟩:=hnode;simp only[gK,eH]at e7;obtain⟨rfl,rfl,_⟩:=e7;exact(hnode.kp (Kp.only k7 (fun h=>by omega))).weak fun g hg=>by
  exact Af6
theorem aHU (hs:ByteArray->Nat) (hlt:∀k,hs k<18446744073709551616):∀f,f<=13->aCd hs f
 |0,_=>aJi hs
 |f+1,hf=>aJh hs hlt f uAu (aLj hs f (aHU hs hlt f uAu))
abbrev scT (k n:Int) (t:ByteArray):Sc:=(k,n,t.data.toList)
def aNs (w w':World):Prop:=∃n,w'=w.drewN n
theorem aNs.below {w w':World} (h:aNs w w'):Below w.heap.size w w':=by
 exact Ak4
theorem lI {W w:World} {a b c:Array Value} {A B C:TypeId} (e:((W.alloc (.cells a A)).alloc (.cells b B)).alloc (.cells c C)=w):
  Below W.heap.size W w/\w.heap[W.heap.size]? =some (.cells a A (0,0))/\w.heap[W.heap.size+1]? =some (.cells b B (0,0))/\w.heap[W.heap.size+2]? =some (.cells c C (0,0))/\w.heap.size=W.heap.size+3:=by
 obtain⟨w2,h2⟩:∃w2,(W.alloc (.cells a A)).alloc (.cells b B)=w2:=⟨_,rfl⟩
 obtain⟨h3,h4,h5,h6⟩:=eR h2;rw[h2]at e;subst e;have h:=aF w2 (.cells c C);rw[h6]at h;exact⟨Below.more h3 _,((Below.newly' w2 _).block _ uAu).trans h4,((Below.newly' w2 _).block _ uAu).trans h5,h,by simp[h6]⟩
theorem xJ {o:Oper} {a:Act} {w:World} {K:Act->World->Prop} {Q:Exit->Act->World->Prop} (ty:TypeId) (x y:Operand) (ho:o.op=.store ty x y)
  (X k:Nat) (v:Value) (hx:a.eval x=.pointer (some ⟨X,k,none⟩)) (hy:a.eval y=v) (h1:v.oneCell'=true) (T:TypeId) (c:Array Value) (hB:w.heap[X]? =some (.cells c T (0,0)))
  (hi:(Tryz.prog.info? ty).map (·.size)=some 1) (hk:k<c.size)
  (h:∀w',w'.heap[X]? =some (.cells (c.setIfInBounds k v) T (0,0))->jK X w w'->K (a.put o.dst undef) w'):o.wp Tryz.prog a w K Q:=by
 unfold Oper.wp execOp;simp only[ho,hx,hy,Instr.storeAt,Instr.sureAddr,fF,fR,cS,nD w X k T ty c v hB hk hi h1];exact h _ (mK w X _ _ _ _ hB) (jA _ _ _)
theorem aMG {a b c d:Value} (h1:a.oneCell'=true) (h2:b.oneCell'=true) (h3:c.oneCell'=true) (h4:d.oneCell'=true):(#[a,b,c,d]:Array Value).all (·.oneCell')=true:=by simp[h1,h2,h3,h4]
def uZ (W:World) (v:Value) (f:Nat->Int) (n:Nat):Prop:=∃(a:Option Addr) (b o cap:Nat),v=.slice a n cap/\n<=cap/\(0<n->a=some ⟨b,o,none⟩)/\∀j,j<n->W.cell? ⟨b,o+j,none⟩=some (.int .i64 (f j))
theorem uZ.later {W W':World} {v:Value} {f:Nat->Int} {n:Nat} (h:uZ W v f n) (hb:Below W.heap.size W W'):uZ W' v f n:=by
 obtain⟨a,b,o,cap,h1,h2,h3,h4⟩:=h;exact⟨a,b,o,cap,h1,h2,h3,fun j hj=>(hb.cell (p:=⟨b,o+j,none⟩) (aM W _ (h4 j hj))).trans (h4 j hj)⟩
theorem uZ.congr {W:World} {v:Value} {f g:Nat->Int} {n:Nat} (h:uZ W v f n) (e:∀j,j<n->f j=g j):uZ W v g n:=by
 obtain⟨a,b,o,cap,h1,h2,h3,h4⟩:=h;exact⟨a,b,o,cap,h1,h2,h3,fun j hj=>by rw[<-e j hj];exact h4 j hj⟩
theorem uZ.places {W:World} {v:Value} {f:Nat->Int} {n:Nat} (h:uZ W v f n):kU W 1 v (fi f) n:=by
 obtain⟨a,b,o,cap,rfl,h2,h3,h4⟩:=h;exact⟨a,cap,rfl,fun h0=>⟨_,h3 h0,fun j hj=>by rw[qQ];exact h4 j uAu⟩⟩
end Go.Proofs.YtengibnpebfblaaGreatDoor
