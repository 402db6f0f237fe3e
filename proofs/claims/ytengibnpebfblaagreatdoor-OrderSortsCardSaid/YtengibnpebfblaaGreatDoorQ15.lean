import Derived.Test.YtengibnpebfblaaGreatDoorQ0
import Derived.Test.YtengibnpebfblaaGreatDoorQ12
import Derived.Test.YtengibnpebfblaaGreatDoorQ14
set_option maxRecDepth 1000000
set_option maxHeartbeats 8000000
set_option linter.unusedSimpArgs false
namespace Go.Proofs.YtengibnpebfblaaGreatDoor
open Go.RowKit
def lR (hs:ByteArray->Nat) (S:Nat->Prop) (w:World) (L:List Ent) (k:ByteArray) (p:Option Nat):Prop:=match gL L k with
 |none=>p=none
 |some x=>∃b,p=some b/\jI hs S w b (k,x)
theorem lR.kp {hs:ByteArray->Nat} {S:Nat->Prop} {w w':World} {L:List Ent} {k:ByteArray} {p:Option Nat} (h:lR hs S w L k p) (kk:Kp S w w'):lR hs S w' L k p:=by
 unfold lR at h ⊢;cases hg:gL L k with
 |none=>rw[hg]at h;exact h
 |some x=>
  rw[hg]at h;obtain⟨b,h1,h2⟩:=h;exact⟨b,h1,h2.kp kk⟩
theorem lR.later {hs:ByteArray->Nat} {S:Nat->Prop} {w w':World} {L:List Ent} {k:ByteArray} {p:Option Nat} (h:lR hs S w L k p) (hb:Below w.heap.size w w'):lR hs S w' L k p:=h.kp (Kp.later hb)
theorem lR.isSome {hs:ByteArray->Nat} {S:Nat->Prop} {w:World} {L:List Ent} {k:ByteArray} {p:Option Nat} (h:lR hs S w L k p):p.isSome=(gL L k).isSome:=by
 unfold lR at h;cases hg:gL L k with
 |none=>rw[hg]at h;rw[h];rfl
 |some x=>rw[hg]at h;obtain⟨b,h1,_⟩:=h;rw[h1];rfl
theorem lR.congr {hs:ByteArray->Nat} {S:Nat->Prop} {w:World} {L M:List Ent} {k:ByteArray} {p:Option Nat} (h:lR hs S w L k p) (e:gL L k=gL M k):lR hs S w M k p:=by
 unfold lR at h ⊢;rw[<-e];exact h
def aEB (hs:ByteArray->Nat) (f:Nat):Prop:=∀(S:Nat->Prop) (w:World) (L:List Ent) (c:Array Value) (k:ByteArray),dF hs S f w L c->iO L->L.length<=100000->
  Calls Tryz.prog 114 #[.agg c,.int .i64 ((13-f:Nat):Int),.int .u64 (hs k:Nat),.string k] w fun r w'=>∃p,r=.returned (pv p)/\lR hs S w' L k p/\Below w.heap.size w w'
theorem aJk (hs:ByteArray->Nat):aEB hs 0:=by
 intro S w L c k h hL hn;obtain⟨w1,hw1⟩:∃w1,w.alloc (.cells c 96)=w1:=⟨_,rfl⟩
 have hb1:Below w.heap.size w w1:=by rw[<-hw1];exact Below.newly' _ _
 have hx1:w1.heap[w.heap.size]? =some (.cells c 96 (0,0)):=by rw[<-hw1];exact aF _ _
 have HX1:=iH hx1;have HB1:=iH hb1;have HS:=iH (aDh w1 L c k (h.later hb1) hL hn);have HSZ:=iH h.size;obtain⟨v,qs,rfl,h2,hq,h4⟩:=h;obtain⟨p1,p2⟩:=aGd hL k;rw[show(((13-0:Nat):Nat):Int)=13 from rfl];cases hg:gL L k with
 |none=>
  rw[hg]at HS;clear h2 h4 p1 p2 hb1 hx1;go_enter Tryz.func114,Tryz.ntmps114;go_upto_region 1 with fail
  clear hw1;go_wp2_with (first
   |(refine bR uAz 96 _ rfl w.heap.size rfl 96 _ _ _ HX1.out Tryz.underlying96 rfl iI ?_)
   |(go_at_call 130;refine HS.out.mono ?_;rintro r w2 ⟨rfl,hb⟩;have HB2:=iH (tW HB1.out hb);clear hb))
  go_ret;exact⟨none,rfl,by unfold lR;rw[hg],HB2.out⟩
 |some x=>
  rw[hg]at HS;obtain⟨e,he,hek,hex⟩:=p2 (by rw[hg];rfl);obtain⟨N,hN⟩:∃N,N=(mG L k).length:=⟨_,rfl⟩
  rw[<-hN]at HS he;rw[hq,List.getElem?_map]at he;obtain⟨q,hqN,hqe⟩:=gD.1 he;have hlt:=(List.getElem?_eq_some_iff.1 hqN).1;obtain⟨hl,h2⟩:=h2;rw[hq,aH]at h2;rcases h2 with⟨h0,_⟩|⟨h0,g,cp,cur,rfl,hcp,hS,hgg,hc⟩
  ·omega
  ·have hcell:w.cell? ⟨g,N,none⟩=some (pv (some q.1)):=aK hgg (hc N _ (by rw[zD,hqN];rfl))
   have hcell1:=(hb1.cell (p:=⟨g,N,none⟩) (gZ hgg)).trans hcell;have HEN:=iH (h4 q (fY hqN));rw[hg]at hex;have hqk:q.2=(k,x):=by rw[hqe];exact Prod.ext hek (aN hex).symm
   rw[hqk]at HEN;have HC1:=iH hcell1;have hlt':(N:Int)<(qs.length:Int):=by omega
   obtain⟨b,hb⟩:∃b,b=q.1:=⟨_,rfl⟩
   rw[<-hb]at HC1 HEN;have HG1:=iH (gZ hgg);clear h4 p1 p2 hb1 hx1 hl hgg hc hcell hcell1 he hqe hqk hqN hlt hek hex hN hb;go_enter Tryz.func114,Tryz.ntmps114;go_upto_region 1 with fail
   clear hw1;go_wp2_with (first
    |(refine bR uAz 96 _ rfl w.heap.size rfl 96 _ _ _ HX1.out Tryz.underlying96 rfl iI ?_)
    |(go_at_call 130;refine HS.out.mono ?_;rintro r w2 ⟨rfl,hb⟩;have HB2:=iH (tW HB1.out hb);have ca2:w2.cell? ⟨w.heap.size,2,none⟩=some (.slice (some ⟨g,0,none⟩) qs.length cp):=aK (kW hb HX1.out) rfl;have cg2:w2.cell? ⟨g,N,none⟩=some (pv (some b)):=(hb.cell (p:=⟨g,N,none⟩) (cQ HG1.out HB1.out.size)).trans HC1.out;clear hb))
   go_ret;exact⟨some b,rfl,by unfold lR;rw[hg];exact⟨b,rfl,HEN.out.later HB2.out⟩,HB2.out⟩
theorem jM {V:World} {X:Nat} {a b d:Value} {T:TypeId} {fr:Nat×Nat} (h:V.heap[X]? =some (.cells #[a,b,d] T fr)):V.rangeAt X 0 (#[a,b]:Array Value).toList:=fun j u hu=>by
 refine aK h ?_;rcases j with _|_|j
 ·simpa using hu
 ·simpa using hu
 ·simp at hu
theorem aJj (hs:ByteArray->Nat) (hlt:∀k,hs k<18446744073709551616) (f:Nat) (hf:f<=12) (ih:aEB hs f):aEB hs (f+1):=by
 intro S w L c k h hL hn;obtain⟨w1,hw1⟩:∃w1,w.alloc (.cells c 96)=w1:=⟨_,rfl⟩
 have hb1:Below w.heap.size w w1:=by rw[<-hw1];exact Below.newly' _ _
 have hx1:w1.heap[w.heap.size]? =some (.cells c 96 (0,0)):=by rw[<-hw1];exact aF _ _
 have hs1:w1.heap.size=w.heap.size+1:=by rw[<-hw1];simp
 obtain⟨lv,hlv⟩:∃lv:Nat,lv=12-f:=⟨_,rfl⟩
 have e13:(13-(f+1):Nat)=lv:=by omega
 rw[e13];obtain⟨b,v,R,rfl,hrow,hpl⟩:=h.row;obtain⟨i,hi⟩:∃i,i=iZ (hs k) (lv:Int):=⟨_,rfl⟩
 have hi32:i<32:=by rw[hi];exact sM _ _
 have HCH:=iH (fun W=>aD5 (hs k) (lv:Int) (hlt k) W);rw[<-hi]at HCH;have HGET:=iH (fun W (hb:Below w.heap.size w W)=>aKC W R #[b,v] i hi32 (hrow.later hb));have HPL:=iH (hpl i hi32);have hch:gL (chE hs lv i L) k=gL L k:=aOb (by rw[hi]);rw[<-hlv]at HPL;have HCE:=iH hch;have HRI:=iH (hL.ch hs lv i);have HLE:=iH (aG (aAb (hs:=hs) (lv:=lv) (i:=i) (L:=L)) hn);have HIH:=iH ih;have HX1:=iH hx1;have HB1:=iH hb1;have HS1:=iH hs1;have hn13:((lv:Int)==13)=false:=bJ.2 uAu;have hlv12:(lv:Int)<=12:=by omega
 have HLV:Hid ((13-f:Nat)=lv+1):=by show _=_;omega
 obtain⟨M,hM⟩:∃M,M=chE hs lv i L:=⟨_,rfl⟩
 rw[<-hM]at HPL HCE HRI HLE;obtain⟨h1,u1⟩:∃x:Nat,x=hs k:=⟨_,rfl⟩
 have HU1:=iH u1;rw[<-u1]at HCH ⊢;obtain⟨bb,rfl⟩:∃bb:Nat,b=.int .u32 (bb:Int):=by obtain⟨v',e,_⟩:=hrow;simp only[gK,eH]at e;exact⟨_,e.1⟩
 obtain⟨va,vn,vc,rfl⟩:∃a n c,v=.slice a n c:=by obtain⟨a,n,e⟩:=hrow.shape;simp only[gK,eH]at e;exact⟨_,_,_,e.2.1⟩
 clear h hrow hpl hch hx1 hb1 hs1 hi hM hL hn ih u1 hlv e13;go_enter Tryz.func114,Tryz.ntmps114;go_upto_region 6 with fail
 clear hw1;have HKS:Hid (∀V,Below w1.heap.size w1 V->(V.heap[w.heap.size]? =some (.cells #[.int .u32 (bb:Int),.slice va vn vc,.slice none 0 0] 96 (0,0)))):=fun V hV=>(hV.block _ uBx).trans HX1.out
 have HW:Hid (Below w1.heap.size w1 w1.drew):=bE w1;refine bL (S:=(fun V=>V.heap[w.heap.size]? =some (.cells #[.int .u32 (bb:Int),.slice va vn vc,.slice none 0 0] 96 (0,0)))) [] hO uAw (fun hHeld=> ?_);refine tkA 0 29 (h:=?_);refine tyA 1 30 (hy:=bT uAz 93 _ rfl w.heap.size 0 rfl #[.int .u32 (bb:Int),.slice va vn vc] _ (fun w hw=>(jM hw)) Tryz.underlying93 rfl (by exact iP)) (h:=?_);(try simp only[pq]);refine tkA 2 31 (h:=?_);refine tkA 3 32 (h:=?_);(try simp only[pq]);refine pM (i:=4) (oi:=⟨some 33,_,_,_,_,_⟩) (v:=.int .i64 (i:Int)) rfl hO hO hO hO (fun _ _ _ h=>h) ⟨by rfl,fun w hSw=>⟨132,#[.int .u64 (h1:Int),.int .i64 (lv:Int)],?hg1_4,(HCH.out w).mono fun _ _ h=>⟨h.1,h.2.symm⟩⟩⟩ uAx ?rg1_4
 case hg1_4=>go_simp
 (try simp only[pq]);refine kN (rs:=[5,9]) hO uBu ?_;refine mY.cons (o:=⟨some 34,_,_,_,_,_⟩) rfl (fun K hK=> ?_) (mY.cons (o:=⟨some 11,_,_,_,_,_⟩) rfl (fun K hK=> ?_) mY.nil)
 go_simp
 go_at_call 131;refine(HGET.out _ (tW HB1.out HW.out)).mono ?_;rintro r w5 ⟨rfl,hb⟩;replace HW:=iH (tW HW.out hb);clear hb;dsimp only;refine hK.out _ _ uAw (fun hHeld=> ?_);clear hK K;(try simp only[pq]);refine tkA 6 28 (h:=?_);refine tkA 7 35 (h:=?_);(try simp only[pq]);refine tkA 8 36 (h:=?_);(try simp only[pq]);refine tkO 9 (some 11) (h:=fun K hK=> ?_);go_simp;have HPX:Hid (aAf (w5.alloc (.cells #[.pointer none,.pointer none] 186)) w5.heap.size (none,none)):=aF w5 _;have HXL:=iH HW.out.size;replace HW:=iH (HW.out.trans ((Below.newly' w5 (.cells #[.pointer none,.pointer none] 186)).mono HW.out.size));obtain⟨X,hX⟩:∃X,X=w5.heap.size:=⟨_,rfl⟩
 rw[<-hX]at HPX HXL ⊢;clear hX;refine hK.out _ _ uAw (fun hHeld=> ?_);clear hK K
 rotate_left
 go_simp
 obtain⟨W2,hW2⟩:∃W2,(w1.alloc (.cells #[.pointer none,.pointer none] 186)).drew=W2:=⟨_,rfl⟩
 have HPX0:Hid (aAf W2 w1.heap.size (none,none)):=by show _=_;rw[<-hW2];exact aF w1 _
 have hb:Below w1.heap.size w1 W2:=by rw[<-hW2];exact Below.drewMany (Below.newly' w1 _) 1
 replace HW:=iH hb;have HXL:Hid (w1.heap.size<=w1.heap.size):=aE _;have HXLT:Hid (w1.heap.size<W2.heap.size):=by show _<_;rw[<-hW2];simp
 rw[hW2];clear hb hW2;obtain⟨X,hX⟩:∃X,X=w1.heap.size:=⟨_,rfl⟩
 rw[<-hX]at HPX0 HXLT ⊢;replace HXL:Hid (w1.heap.size<=X):=by show _<=_;rw[hX];exact aE _
 clear hX;refine hK.out _ _ uAw (fun hHeld=> ?_);clear hK K;(try simp only[pq]);refine tkO 5 (some 34) (h:=fun K hK=> ?_);go_simp;go_at_call 131;refine(HGET.out _ (tW HB1.out HW.out)).mono ?_;rintro r w5 ⟨rfl,hb⟩;have HPX:=iH ((hb.block X HXLT.out).trans HPX0.out);replace HW:=iH (tW HW.out hb);clear hb;dsimp only;refine hK.out _ _ uAw (fun hHeld=> ?_);clear hK K;(try simp only[pq]);refine tkA 6 28 (h:=?_);refine tkA 7 35 (h:=?_);(try simp only[pq]);refine tkA 8 36 (h:=?_)
 all_goals
  (try simp only[pq]);refine tkO 10 none (h:=fun K hK=> ?_);rw[if_pos uAz];refine kH 186 _ _ rfl X (plc ((R i).getD (none,none))) rfl rfl 186 (plc (none,none)) HPX.out dJ rfl (gM _) ?_;intro w6 h6 k6;have HP6:=iH h6;replace HW:=iH (HW.out.trans (k6.below HXL.out));clear h6 k6 HPX;refine hK.out _ _ uAw (fun hHeld=> ?_);clear hK K;(try simp only[pq]);refine tkA 11 12 (h:=?_);(try simp only[pq]);refine bK hO ?_ _;have HWW:=iH (tW HB1.out HW.out);clear hHeld;rcases M with _|⟨e,_|⟨e2,M2⟩⟩
  ·have hr:R i=none:=HPL.out
   rw[hr]at HP6 ⊢;have cx0:w6.cell? ⟨X,0,none⟩=some (.pointer none):=aK HP6.out rfl;have cx1:w6.cell? ⟨X,1,none⟩=some (.pointer none):=aK HP6.out rfl;have HG:Hid (gL L k=none):=by show _=_;rw[<-HCE.out];rfl
   clear hr;go_wp2_with fail
   go_ret;exact⟨none,rfl,by unfold lR;rw[HG.out],HWW.out⟩
  ·obtain⟨b,hr,he⟩:=HPL.out
   rw[hr]at HP6 ⊢;have HE6:=iH (he.later HWW.out);have cx0:w6.cell? ⟨X,0,none⟩=some (.pointer (some ⟨b,0,none⟩)):=aK HP6.out rfl;have cx1:w6.cell? ⟨X,1,none⟩=some (.pointer none):=aK HP6.out rfl;have ce0:w6.cell? ⟨b,0,none⟩=some (.string e.1):=by
    obtain⟨_,fr,h⟩:=HE6.out;exact aK h rfl
   have hge:gL [e] k=if e.1=k then some e.2 else none:=by
    unfold gL;by_cases h:e.1=k
    ·simp[h]
    ·simp[h]
   have HGE:Hid (gL L k=if e.1=k then some e.2 else none):=by show _=_;rw[<-HCE.out];exact hge
   clear hr he hge;by_cases hk:e.1=k
   ·have hkk:(e.1.toList==k.toList)=true:=by rw[hk];simp
    have HKK:=iH hk;clear hk;go_wp2_with fail
    go_ret;refine⟨some b,rfl,?_,HWW.out⟩;unfold lR;rw[HGE.out,if_pos HKK.out];refine⟨b,rfl,?_⟩;rw[<-HKK.out];exact HE6.out
   ·have hkk:(e.1.toList==k.toList)=false:=bJ.2 fun h=>hk (uV (by rw[eJ,eJ]at h;exact h))
    have HKK:=iH hk;clear hk;go_wp2_with fail
    go_ret;exact⟨none,rfl,by unfold lR;rw[HGE.out,if_neg HKK.out],HWW.out⟩
  ·obtain⟨b,c2,fr,hr,hSb,hbk,hN⟩:=HPL.out
   rw[hr]at HP6 ⊢;have cx1:w6.cell? ⟨X,1,none⟩=some (.pointer (some ⟨b,0,none⟩)):=aK HP6.out rfl;have HBK:=iH (kW HWW.out hbk);have hih:=HIH.out S w6 _ c2 k (hN.later HWW.out) HRI.out HLE.out;rw[HLV.out,<-HU1.out,show(((lv+1:Nat):Nat):Int)=(lv:Int)+1 by omega]at hih;have HF:=iH hih;have HSZ2:=iH hN.size;clear hr hSb hbk hN hih;go_wp2_with (first
    |(refine bR uAz 96 _ rfl b rfl 96 _ _ _ HBK.out Tryz.underlying96 rfl (by rw[HSZ2.out];exact iI) ?_)
    |(go_at_call 114;refine HF.out.mono ?_;rintro r w7 ⟨p,rfl,hp,hb⟩;have HFO:=iH hp;have HB7:=iH (tW HWW.out hb);clear hp hb))
   go_ret;exact⟨p,rfl,(HFO.out.congr HCE.out),HB7.out⟩
theorem aEc (hs:ByteArray->Nat) (hlt:∀k,hs k<18446744073709551616):∀f,f<=13->aEB hs f
 |0,_=>aJk hs
 |f+1,h=>aJj hs hlt f uAu (aEc hs hlt f uAu)
theorem iV (s:ByteArray):s.data.toList.length=s.size:=by simp
theorem yS (s:ByteArray) (k:Nat) (h:k<s.size):s.data.toList.getD k 0=s[k]:=by
 rw[List.getD_eq_getElem?_getD,List.getElem?_eq_getElem uDw];rfl
theorem aFx (s:ByteArray) (k:Nat):(s.extract k s.size).data.toList=s.data.toList.drop k:=by
 simp;rw[aZ uBu]
theorem aAo (s:ByteArray) (k:Nat):(s.extract k s.size).size=s.size-k:=by simp
theorem aMt (c:UInt8) (k:Nat) (hk:k<=7):IntKind.u64.wrap (IntKind.u64.wrap (c.toNat:Int)*2^(8*(7-k)))=((c.toNat*2^(8*(7-k)):Nat):Int):=by
 have hc:c.toNat<256:=c.toNat_lt;have h:=aEt c k hk;rw[aDX,iB,iB,show((c.toNat:Int) % 18446744073709551616)=(c.toNat:Int) by omega,<-Int.natCast_mul];omega
theorem aHo (l:List UInt8) (k:Nat) (c:UInt8) (hk:k<=7) (hc:l.getD k 0=c):
  bits .or .u64 (wd l k:Int) (IntKind.u64.wrap (IntKind.u64.wrap (c.toNat:Int)*2^(8*(7-k))))=(wd l (k+1):Int):=by
 rw[aMt c k hk,bits_or_u64_nat _ _ (aHp l k uAu) (aEt c k hk),<-hc];rfl
theorem aKS (s:ByteArray) (hs:s.size<=maxLen) (w:World):
  Calls Tryz.prog 73 #[.string s] w fun e w'=>e=.returned (.int .u64 (wd s.data.toList (min s.size 8):Nat))/\w=w':=by
 unfold maxLen at hs;go_enter Tryz.func73,Tryz.ntmps73;go_wp2_with fail
 go_loop [3,8] (fun v n=>∃i:Nat,i<=s.size/\i<=8/\n=.int .i64 i/\v=.int .u64 (wd s.data.toList i:Nat)) (fun _ n=>8-(intOf n).toNat)
 case atStart=>exact⟨0,aQ _,aQ _,rfl,rfl⟩
 case round=>
  obtain⟨i,hi,h9,rfl,rfl⟩:=hrel;by_cases h1:i<8/\i<s.size
  ·obtain⟨h1,h2⟩:=h1
   have HS:=aJ (aHo s.data.toList i s[i] uAu (yS s i h2));go_wp2
   go_round
   case rel=>exact⟨i+1,by omega,by omega,by go_num,by rw[HS.out]⟩
   case measure=>simp[intOf];omega
  ·have e:Hid (i=min s.size 8):=by show _=_;omega
   go_wp2
   go_ret;exact⟨oJ (by rw[e.out]),rfl⟩
theorem aFz (seed:Nat) (s:ByteArray) (hseed:seed<18446744073709551616) (hz:s.size<=9223372036854775800) (w:World):
  Calls Tryz.prog 42 #[.int .u64 (seed:Int),.string s] w fun e w'=>e=.returned (.int .u64 (aAJ seed s.data.toList:Nat))/\w=w':=by
 have H0:=aJ (fun w=>aFA seed s.size hseed uAu w);have hc:IntKind.u64.wrap (s.size:Int)=(s.size:Int):=by rw[iB];omega
 clear hseed;go_enter Tryz.func42,Tryz.ntmps42;go_wp2_with fail
 refine(H0.out w).mono ?_;rintro e w1 ⟨rfl,rfl⟩;go_wp2_with fail
 go_loop [5,6] (fun v n=>∃a j:Nat,Hid (a=8*j)/\a<=s.size+7/\n=.int .i64 a/\v=.int .u64 (hs seed s.data.toList j:Nat)) (fun _ n=>s.size+7-(intOf n).toNat)
 case atStart=>exact⟨0,0,rfl,aQ _,rfl,by rw[hs,iV]⟩
 case round=>
  obtain⟨a,j,HJ,ha,rfl,rfl⟩:=hrel;by_cases h1:a<s.size
  ·have HW:=aJ (fun w=>aKS (s.extract a s.size) (by rw[aAo];unfold maxLen;omega) w)
   rw[aFx,aAo]at HW;obtain⟨x,hx⟩:∃x,x=wd (s.data.toList.drop a) (min (s.size-a) 8):=⟨_,rfl⟩
   rw[<-hx]at HW;have HX:Hid (x=wd (s.data.toList.drop (8*j)) (min (s.data.toList.length-8*j) 8)):=by show _=_;rw[iV,<-HJ.out];exact hx
   have HS:=aJ (fun w=>aFA (hs seed s.data.toList j) x (aLi _ _ _) (hx▸aHp _ _ uAu) w);clear hx;go_wp2_with fail
   refine(HW.out _).mono ?_;rintro e w1 ⟨rfl,rfl⟩;go_wp2_with fail
   refine(HS.out _).mono ?_;rintro e w1 ⟨rfl,rfl⟩;go_wp2_with fail
   go_round
   case rel=>exact⟨a+8,j+1,by show _=_;have:=HJ.out;omega,by omega,by go_num,by rw[HX.out];rfl⟩
   case measure=>simp[intOf];omega
  ·have HE:=aJ (fun w=>aMM (hs seed s.data.toList j) (aLi _ _ _) w)
   have e:Hid (j=(s.data.toList.length+7)/8):=by show _=_;rw[iV];have:=HJ.out;omega
   go_wp2_with fail
   refine(HE.out _).mono ?_;rintro e w1 ⟨rfl,rfl⟩;go_wp2_with fail
   go_ret;exact⟨oJ (by rw[e.out];rfl),rfl⟩
def TrM (seed:Nat) (l:List UInt8) (i o p:Nat):Prop:=
 o=hs seed l (if i=l.length then(l.length+7)/8 else i/8)/\p=wd (l.drop (8*(i/8))) (if i=l.length then 0 else i % 8)
theorem aK6 (seed:Nat) (l:List UInt8):TrM seed l 0 (aBd seed l.length) 0:=by
 refine⟨?_,?_⟩
 ·have:(if 0=l.length then(l.length+7)/8 else 0/8)=0:=by split<;>omega
  rw[this];rfl
 ·have:(if 0=l.length then 0 else 0 % 8)=0:=by split<;>rfl
  rw[this];rfl
theorem aMh {seed:Nat} {l:List UInt8} {i o p:Nat} (h:TrM seed l i o p) (hi:i<l.length):p=wd (l.drop (8*(i/8))) (i % 8):=by
 have:=h.2;rwa[if_neg uAu]at this
theorem aK5 {seed:Nat} {l:List UInt8} {i o p:Nat} (h:TrM seed l i o p) (hi:i<l.length):o=hs seed l (i/8):=by
 have:=h.1;rwa[if_neg uAu]at this
theorem aNp {seed:Nat} {l:List UInt8} {i o p:Nat} (h:TrM seed l i o p):o<18446744073709551616:=by rw[h.1];exact aLi _ _ _
theorem aEV {seed:Nat} {l:List UInt8} {i o p x:Nat} (h:TrM seed l i o p) (hi:i<l.length) (hf:i % 8=7\/i+1=l.length) (hx:x=wd (l.drop (8*(i/8))) (i % 8+1)):TrM seed l (i+1) (aBd o x) 0:=by
 have e:min (l.length-8*(i/8)) 8=i % 8+1:=by omega
 have e1:(if i+1=l.length then(l.length+7)/8 else(i+1)/8)=i/8+1:=by split<;>omega
 have e2:(if i+1=l.length then 0 else(i+1) % 8)=0:=by split<;>omega
 refine⟨?_,?_⟩
 ·rw[e1,aK5 h hi,hx,<-e];rfl
 ·rw[e2];rfl
theorem aMi {seed:Nat} {l:List UInt8} {i o p x:Nat} (h:TrM seed l i o p) (hi:i<l.length) (h7:¬i % 8=7) (hl:¬i+1=l.length) (hx:x=wd (l.drop (8*(i/8))) (i % 8+1)):TrM seed l (i+1) o x:=by
 refine⟨?_,?_⟩
 ·rw[if_neg hl,aK5 h hi,show(i+1)/8=i/8 by omega]
 ·rw[if_neg hl,hx,show(i+1)/8=i/8 by omega,show(i+1) % 8=i % 8+1 by omega]
theorem aNy {seed:Nat} {l:List UInt8} {o p:Nat} (h:TrM seed l l.length o p):aFX o=aAJ seed l:=by
 have:=h.1;rw[if_pos rfl]at this;rw[this];rfl
theorem tr_or {seed:Nat} {s:ByteArray} {i o p:Nat} (h:TrM seed s.data.toList i o p) (hi:i<s.size):
  bits .or .u64 (p:Int) (IntKind.u64.wrap (IntKind.u64.wrap (s[i].toNat:Int)*2^(56-8*(i % 8))))=(wd (s.data.toList.drop (8*(i/8))) (i % 8+1):Nat):=by
 rw[aMh h (by rw[iV];exact hi),show 56-8*(i % 8)=8*(7-i % 8) by omega];refine aHo _ _ s[i] uAu ?_;rw[<-yS s i hi,List.getD_eq_getElem?_getD,List.getD_eq_getElem?_getD,List.getElem?_drop,show 8*(i/8)+i % 8=i by omega]
theorem aKw (seed:Nat) (s:ByteArray) (hseed:seed<18446744073709551616) (hz:s.size<=9223372036854775800) (w:World):
  Calls Tryz.prog 43 #[.int .u64 (seed:Int),.string s] w fun e w'=>e=.returned (.int .u64 (aAJ seed s.data.toList:Nat))/\w=w':=by
 have H0:=aJ (fun w=>aFe seed s.size hseed uAu w);have hc:IntKind.u64.wrap (s.size:Int)=(s.size:Int):=by rw[iB];omega
 clear hseed;go_enter Tryz.func43,Tryz.ntmps43;go_wp2_with fail
 refine(H0.out w).mono ?_;rintro e w1 ⟨rfl,rfl⟩;go_wp2_with fail
 go_loop [5,6,15] (fun v x n=>∃i o p:Nat,i<=s.size/\n=.int .i64 i/\v=.int .u64 o/\x=.int .u64 p/\Hid (TrM seed s.data.toList i o p)) (fun _ _ n=>s.size-(intOf n).toNat)
 case atStart=>exact⟨0,_,0,aQ _,rfl,rfl,rfl,by have:=aK6 seed s.data.toList;rwa[iV]at this⟩
 case round=>
  obtain⟨i,o,p,hi,rfl,rfl,rfl,HT⟩:=hrel;by_cases h1:i<s.size
  ·obtain⟨x,hx⟩:∃x,x=wd (s.data.toList.drop (8*(i/8))) (i % 8+1):=⟨_,rfl⟩
   have ho:=tr_or HT.out h1;rw[<-hx]at ho;have HX:=aJ hx;have HL:Hid (i<s.data.toList.length):=by show _<_;rw[iV];exact h1
   have HS:=aJ (fun w=>aFe o x (aNp HT.out) (hx▸aHp _ _ uAu) w);clear hx;by_cases h2:i % 8=7
   ·have HF:=aJ (aEV HT.out HL.out (.inl h2) HX.out)
    rw[h2,show 56-8*7=0 from rfl,Int.pow_zero,Int.mul_one]at ho;exact Ae6
   ·have h2':((i:Int) % 8==7)=false:=bJ.2 uAu
    by_cases h3:i+1=s.size
    ·have HF:=aJ (aEV HT.out HL.out (.inr (by rw[iV];exact h3)) HX.out)
     have h3':((i:Int)==(s.size:Int)-1)=true:=by simp;omega
     exact Ae6
    ·have HK:=aJ (aMi HT.out HL.out h2 (by rw[iV];exact h3) HX.out)
     have h3':((i:Int)==(s.size:Int)-1)=false:=bJ.2 uAu;go_wp2_with fail
     go_round
     case rel=>exact⟨i+1,_,_,by omega,by go_num,rfl,rfl,HK⟩
     case measure=>simp[intOf];omega
  ·have e:i=s.data.toList.length:=by rw[iV];omega
   have HE:=aJ (fun w=>aMA o (aNp HT.out) w);have HV:Hid (aFX o=aAJ seed s.data.toList):=aNy (e▸HT.out);clear e;go_wp2_with fail
   refine(HE.out _).mono ?_;rintro e w1 ⟨rfl,rfl⟩;go_wp2_with fail
   go_ret;exact⟨oJ (by rw[HV.out]),rfl⟩
section
variable {P : Program} {md : Region.Mode} {ops : Array Oper} {Q : Exit → Act → World → Prop} {S : World → Prop} {U : List Nat}
def pH (listed:Array Bool):List Nat->Array Bool
 |[]=>listed
 |i::m=>(pH listed m).setIfInBounds i true
theorem xN (listed:Array Bool):∀m,(pH listed m).size=listed.size
 |[]=>rfl
 |i::m=>by rw[pH,zS,xN listed m]
theorem aD6 (listed:Array Bool) (k:Nat):∀m,k∉m->(pH listed m).getD k false=listed.getD k false
 |[],_=>rfl
 |i::m,h=>by
  rw[bA,not_or]at h;rw[pH,qU false (fun e=>h.1 e.symm),aD6 listed k m h.2]
theorem xO (listed:Array Bool) (k:Nat):∀m,k∉m->(pH listed m).getD k true=listed.getD k true
 |[],_=>rfl
 |i::m,h=>by
  rw[bA,not_or]at h;rw[pH,qU true (fun e=>h.1 e.symm),xO listed k m h.2]
theorem yT (listed:Array Bool) (k:Nat):∀m,k∈m->(pH listed m).getD k true=true
 |i::m,h=>by
  rw[pH];by_cases hk:i=k
  ·subst hk
   rw[Array.getD_eq_getD_getElem?,Array.getElem?_setIfInBounds_self];split<;>rfl
  ·rw[qU true hk]
   exact yT listed k m ((bA.1 h).resolve_left fun e=>hk e.symm)
theorem aAp (listed:Array Bool) {m m':List Nat} (h:∀k,k∈m↔k∈m'):pH listed m=pH listed m':=by
 apply Array.ext
 ·rw[xN,xN]
 ·intro k h1 h2
  have e:∀(a:Array Bool) (h:k<a.size),a[k]=a.getD k true:=fun a h=>by simp[h]
  rw[e,e];by_cases hk:k∈m
  ·rw[yT listed k m hk,yT listed k m' ((h k).1 hk)]
  ·rw[xO listed k m hk,xO listed k m' (fun h'=>hk ((h k).2 h'))]
def aCM:List Nat->List (List Nat)
 |[]=>[[]]
 |x::xs=>aCM xs++(aCM xs).map (x:: ·)
theorem tR (p:Nat->Bool):∀G:List Nat,G.filter p∈aCM G
 |[]=>by simp[aCM]
 |x::xs=>by
  rw[aCM,cP,cH,tE];by_cases h:p x=true
  ·rw[if_pos h];exact .inr ⟨_,tR p xs,rfl⟩
  ·rw[if_neg h];exact .inl (tR p xs)
def xB (md:Region.Mode) (ops:Array Oper) (i j:Nat):Bool:=match ops[i]? with|some o=>o.after.any (fun e=>Region.binds md e&&e.on==j)|none=>false
def aEm (md:Region.Mode) (ops:Array Oper) (G m:List Nat):Bool:=m.all fun i=>G.all fun j=> !xB md ops i j||m.contains j
def aEd (md:Region.Mode) (ops:Array Oper) (listed:Array Bool) (G U:List Nat):Bool:=
 decide G.Nodup&&G.all (fun i=> !U.contains i&& !listed.getD i false)&&
 (aCM G).all fun m=> !aEm md ops G m||m.length==G.length||(!(Region.ready md ops (pH listed m)).isEmpty&&(Region.ready md ops (pH listed m)).all G.contains)
theorem aJl {G m:List Nat} {i:Nat} (hnd:G.Nodup) (hi:i∈G) (hm:i∉m):(G.filter fun k=> !(i::m).contains k).length+1=(G.filter fun k=> !m.contains k).length:=by
 induction G with
 |nil=>cases hi
 |cons x xs ih=>
  rw[List.nodup_cons]at hnd;by_cases hx:x=i
  ·subst hx
   have e:(xs.filter fun k=> !(x::m).contains k)=xs.filter fun k=> !m.contains k:=by
    apply List.filter_congr;intro k hk;have:k≠x:=fun e=>hnd.1 (e▸hk)
    simp[this]
   rw[tE,tE,if_neg uBu,if_pos (by simpa using hm),e,aL]
  ·have hi':=(bA.1 hi).resolve_left fun e=>hx e.symm
   have:=ih hnd.2 hi';rw[tE,tE];by_cases hxm:x∈m
   ·rw[if_neg (by simp[hxm]),if_neg (by simpa using hxm)];exact this
   ·rw[if_pos (by simp[hxm,hx]),if_pos (by simpa using hxm),aL,aL];omega
theorem aDB (G:List Nat) (I:List Nat->Act->World->Prop) {n fuel:Nat} {listed:Array Bool} {a:Act} {w:World} (hf:fuel=n+G.length) (hG:aEd md ops listed G U=true)
  (h0:I [] a w) (hS:S w)
  (hstep:∀(m:List Nat) (i:Nat) (a:Act) (w:World),i∈G->i∉m->(∀j,G.contains j=true->xB md ops i j=true->j∈m)->I m a w->S w->wpOp P ops Q i (fun a' w'=>S w'/\I (i::m) a' w') a w)
  (hdone:∀(m:List Nat) (a:Act) (w:World),(∀j,G.contains j=true->j∈m)->I m a w->S w->dX P md ops Q S U n (pH listed G) a w):
  dX P md ops Q S U fuel listed a w:=by
 unfold aEd at hG;rw[fB,fB,mO,fO,fO]at hG;obtain⟨⟨hnd,hout⟩,hall⟩:=hG;have key:∀(r:Nat) (m:List Nat) (a:Act) (w:World),(G.filter fun k=> !m.contains k).length=r->(∀k∈m,k∈G)->(∀i∈m,∀j∈G,xB md ops i j=true->j∈m)->I m a w->S w->dX P md ops Q S U (n+r) (pH listed m) a w:=by
  intro r;induction r with
  |zero=>
   intro m a w hr hsub hcl hI hS;have hin:∀j∈G,j∈m:=fun j hj=>by
    have:=aT hr;rw[mR]at this;have:=this j hj;simpa using this
   rw[aAp listed (m:=m) (m':=G) fun k=>⟨hsub k,hin k⟩];exact hdone m a w (fun j hj=>hin j uDx) hI hS
  |succ r ih=>
   intro m a w hr hsub hcl hI hS;have hm':=hall _ (tR (fun k=>m.contains k) G);have hne:(G.filter fun k=>m.contains k).length≠G.length:=fun e=>by
    have h1:=aId.1 e;have h2:(G.filter fun k=> !m.contains k)=[]:=by
     rw[mR];intro k hk;have:=h1 k hk;rw[this];simp
    rw[h2]at hr;simp at hr
   have hclF:aEm md ops G (G.filter fun k=>m.contains k)=true:=by
    unfold aEm;rw[fO];intro i hi;rw[fO];intro j hj;rw[iT]at hi;cases hwt:xB md ops i j with
    |false=>rfl
    |true=>
     have:=hcl i (by simpa using hi.2) j hj hwt;simp[hj,this]
   rw[hclF,pR,pR,kL,fB,fO]at hm';have hm2:=hm'.resolve_left (fun h=>h.elim (fun h=>by cases h) hne);rw[aAp listed (m:=G.filter fun k=>m.contains k) (m':=m) fun k=>⟨fun h=>by simpa using(iT.1 h).2,fun h=>iT.2 ⟨hsub k h,by simpa using h⟩⟩]at hm2;refine⟨fun h=>(by rw[h]at hm2;simp at hm2),fun i hi=> ?_⟩;have hiG:i∈G:=by simpa using hm2.2 i hi
   obtain⟨hun,o,ho,hdep⟩:=sZ.1 hi;have him:i∉m:=fun h=>by rw[yT listed i m h]at hun;cases hun
   have hw:∀j,G.contains j=true->xB md ops i j=true->j∈m:=fun j hj hwj=>by
    unfold xB at hwj;rw[ho]at hwj;simp only at hwj;rw[aIg]at hwj;obtain⟨k,hk,h2⟩:=hwj;rw[fB,kL]at h2;have h3:=hdep _ (aIf hk) h2.1;rw[h2.2]at h3;refine Classical.byContradiction fun hjm=> ?_
    rw[aD6 listed j m hjm]at h3;have h4:=hout j uDx;rw[h3]at h4;simp at h4
   refine aJC (fun a' w' h=>⟨fun _=>h.1,ih (i::m) a' w' ?_ ?_ ?_ h.2 h.1⟩) (hstep m i a w hiG him hw hI hS)
   ·have:=aJl hnd hiG him
    omega
   ·intro k hk
    rcases bA.1 hk with rfl|hk
    ·exact hiG
    ·exact hsub k hk
   ·intro k hk j hj hwk
    rcases bA.1 hk with rfl|hk
    ·exact aU _ (hw j uDx hwk)
    ·exact aU _ (hcl k hk j hj hwk)
 have h:=key _ [] a w rfl (fun k hk=>by cases hk) (fun k hk=>by cases hk) h0 hS;have e:(G.filter fun k=> !([]:List Nat).contains k)=G:=by
  rw[aEI];intro k _;simp
 rw[e]at h;rw[hf];exact h
theorem aLZ (G:List Nat) (I:Act->List Nat->Act->World->Prop) {n fuel:Nat} {listed:Array Bool} {a:Act} {w:World} (hf:fuel=n+G.length) (hG:aEd md ops listed G U=true)
  (h0:I a [] a w) (hS:S w)
  (hstep:∀(m:List Nat) (i:Nat) (b:Act) (w:World),i∈G->i∉m->(∀j,G.contains j=true->xB md ops i j=true->j∈m)->I a m b w->S w->wpOp P ops Q i (fun a' w'=>S w'/\I a (i::m) a' w') b w)
  (hdone:∀(m:List Nat) (b:Act) (w:World),(∀j,G.contains j=true->j∈m)->I a m b w->S w->dX P md ops Q S U n (pH listed G) b w):
  dX P md ops Q S U fuel listed a w:=aDB G (I a) hf hG h0 hS hstep hdone
def aM6 (val:Nat->Value) (i:Nat) (v:Value) (k:Nat):Value:=if k=i then v else val k
theorem aAP (val:Nat->Value) (i:Nat) (v:Value):aM6 val i v i=v:=if_pos rfl
theorem oF (val:Nat->Value) {i k:Nat} (v:Value) (h:k≠i):aM6 val i v k=val k:=if_neg h
structure Gr {α:Type} (R:World->Value->α->Prop) (T:TypeId) (z:Array Value) (vars:List Nat) (gots:List (Nat×α)) (Wb V:World) (m:List Nat) (val:Nat->Value):Prop where
 bel:Below Wb.heap.size Wb V
 made:∀i∈vars,i∈m->∃x,val i=.pointer (some ⟨x,0,none⟩)/\Wb.heap.size<=x/\V.heap[x]? =some (.cells z T (0,0))
 got:∀g∈gots,g.1∈m->R V (val g.1) g.2
 apart:∀i∈vars,∀j∈vars,i∈m->j∈m->i≠j->val i≠val j
section
variable {α : Type} {R : World → Value → α → Prop} {T : TypeId} {z : Array Value} {vars : List Nat} {gots : List (Nat × α)} {Wb V V' : World} {m : List Nat} {val : Nat → Value}
theorem Gr.start (Wb:World):Gr R T z vars gots Wb Wb [] val:=⟨aY _ _,fun _ _ h=>uQu,fun _ _ h=>uQu,fun _ _ _ _ h=>uQu⟩
theorem Gr.call (hR:∀A B v x,R A v x->Below A.heap.size A B->R B v x) (h:Gr R T z vars gots Wb V m val) (hb:Below V.heap.size V V') {i:Nat} {v:Value} (hi:∀j∈vars,j≠i) (hg:∀g∈gots,g.1=i->R V' v g.2):
  Gr R T z vars gots Wb V' (i::m) (aM6 val i v):=by
 refine⟨tW h.bel hb,fun j hj hm=> ?_,fun g hgg hm=> ?_,fun j hj k hk hjm hkm hne=> ?_⟩
 ·have hji:=hi j hj
  obtain⟨x,h1,h2,h3⟩:=h.made j hj ((bA.1 hm).resolve_left hji);exact⟨x,(oF val v hji).trans h1,h2,kW hb h3⟩
 ·by_cases e:g.1=i
  ·have h1:=hg g hgg e
   rw[e,aAP];exact h1
  ·rw[oF val v e]
   exact hR _ _ _ _ (h.got g hgg ((bA.1 hm).resolve_left e)) hb
 ·rw[oF val v (hi j hj),oF val v (hi k hk)]
  exact h.apart j hj k hk ((bA.1 hjm).resolve_left (hi j hj)) ((bA.1 hkm).resolve_left (hi k hk)) hne
theorem Gr.alloc (hR:∀A B v x,R A v x->Below A.heap.size A B->R B v x) (h:Gr R T z vars gots Wb V m val) {i:Nat} (hg:∀g∈gots,g.1≠i):
  Gr R T z vars gots Wb (V.alloc (.cells z T)) (i::m) (aM6 val i (.pointer (some ⟨V.heap.size,0,none⟩))):=by
 have hb:=Below.newly' V (.cells z T);have hlt:∀j∈vars,j∈m->val j≠.pointer (some ⟨V.heap.size,0,none⟩):=fun j hj hm e=>by
  obtain⟨x,h1,_,h3⟩:=h.made j hj hm;rw[h1]at e;simp only[Value.pointer.injEq,cC,nB]at e;have:=(gZ h3)
  omega
 refine⟨tW h.bel hb,fun j hj hm=> ?_,fun g hgg hm=> ?_,fun j hj k hk hjm hkm hne=> ?_⟩
 ·by_cases e:j=i
  ·rw[e,aAP]
   exact⟨_,rfl,h.bel.size,aF _ _⟩
  ·rw[oF val _ e]
   obtain⟨x,h1,h2,h3⟩:=h.made j hj ((bA.1 hm).resolve_left e);exact⟨x,h1,h2,kW hb h3⟩
 ·rw[oF val _ (hg g hgg)]
  exact hR _ _ _ _ (h.got g hgg ((bA.1 hm).resolve_left (hg g hgg))) hb
 ·by_cases e:j=i
  ·have hk2:k≠i:=fun e'=>hne (e.trans e'.symm)
   rw[e,aAP,oF val _ hk2];exact(hlt k hk ((bA.1 hkm).resolve_left hk2)).symm
  ·by_cases e':k=i
   ·rw[e',aAP,oF val _ e]
    exact hlt j hj ((bA.1 hjm).resolve_left e)
   ·rw[oF val _ e,oF val _ e']
    exact h.apart j hj k hk ((bA.1 hjm).resolve_left e) ((bA.1 hkm).resolve_left e') hne
end
theorem aOn {i:Nat} {o:Oper} {I:Act->World->Prop} {a:Act} {w:World} (ho:ops[i]? =some o)
  (h:∀K':Act->World->Prop,Shut (∀a w,S w->I a w->K' a w)->if Region.wanted o (yielded ops a.tmps)=true then Oper.wp P o a w K' Q else K' (a.put o.dst undef) w):wpOp P ops Q i (fun a' w'=>S w'/\I a' w') a w:=
 aJB ho (fun K' hK=>h K' (fun a w hS hI=>hK a w ⟨hS,hI⟩))
end
end Go.Proofs.YtengibnpebfblaaGreatDoor
namespace Go.Proofs.YtengibnpebfblaaGreatDoor
open Go.RowKit
def zI (xs:List Tr) (i:Nat):Nat:=xs.countP fun x=>decide (iX x=i+1)
theorem aLF (xs ys:List Tr) (i:Nat):zI (xs++ys) i=zI xs i+zI ys i:=by simp[zI,List.countP_append]
theorem aJt {xs ys:List Tr} (h:xs.Perm ys) (i:Nat):zI xs i=zI ys i:=h.countP_eq _
theorem aLE (x:Tr) (i:Nat):zI [x] i=if iX x=i+1 then 1 else 0:=by simp[zI,List.countP_cons]
theorem aN5 (xs:List Tr) (i:Nat):zI xs i<=xs.length:=List.countP_le_length
theorem aLD {xs:List Tr} {i:Nat} (h:jY xs<=i):zI xs i=0:=by
 unfold zI;rw[List.countP_eq_zero];intro x hx;have:=aC1 hx;simp;omega
def tal (xs:List Tr):List Int:=(List.range (jY xs)).map fun i=>(zI xs i:Int)
theorem oI (xs:List Tr):(tal xs).length=jY xs:=by simp[tal]
theorem yK (xs:List Tr) (i:Nat):(tal xs).getD i 0=(zI xs i:Int):=by
 by_cases h:i<jY xs
 ·simp[tal,List.getD_eq_getElem?_getD,h]
 ·rw[List.getD_eq_getElem?_getD,List.getElem?_eq_none (by rw[oI];omega),aLD uAu]
  rfl
theorem aGD {l:List Int} {xs:List Tr} (h1:l.length=jY xs) (h2:∀i,i<l.length->l.getD i 0=(zI xs i:Int)):l=tal xs:=by
 apply aAG (by rw[h1,oI]);intro i hi hj;have:=(h2 i hi).trans (yK xs i).symm;rw[List.getD_eq_getElem?_getD,List.getD_eq_getElem?_getD,List.getElem?_eq_getElem hi,List.getElem?_eq_getElem hj]at this;exact this
theorem aEX {xs ys:List Tr} (h:xs.Perm ys):tal xs=tal ys:=
 aGD (by rw[oI,aDm h]) fun i _=>by rw[yK,aJt h]
theorem aMn (x:Tr):tal [x]=List.replicate (iX x-1) 0++[1]:=by
 have hp:=aI0 x;refine(aGD (by simp[jY];omega) fun i hi=> ?_).symm;rw[aLE];simp only[aD,List.length_replicate,bM]at hi;rw[List.getD_eq_getElem?_getD];by_cases h:i<iX x-1
 ·rw[List.getElem?_append_left uDw,if_neg uAu]
  simp[h]
 ·rw[List.getElem?_append_right uDv,if_pos uAu]
  simp[show i-(iX x-1)=0 by omega]
def aBr (a b:List Int):List Int:=(List.range (max a.length b.length)).map fun i=>a.getD i 0+b.getD i 0
theorem vI (a b:List Int):(aBr a b).length=max a.length b.length:=by simp[aBr]
theorem aD1 (a b:List Int) {i:Nat} (h:i<max a.length b.length):(aBr a b).getD i 0=a.getD i 0+b.getD i 0:=by simp[aBr,List.getD_eq_getElem?_getD,h]
theorem aKE (xs ys:List Tr):aBr (tal xs) (tal ys)=tal (xs++ys):=
 aGD (by rw[vI,oI,oI,aLy]) fun i hi=>by
  rw[vI]at hi;rw[aD1 _ _ hi,yK,yK,aLF];omega
end Go.Proofs.YtengibnpebfblaaGreatDoor
