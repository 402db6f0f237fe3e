import Derived.Test.YtengibnpebfblaaGreatDoorQ0
import Derived.Test.YtengibnpebfblaaGreatDoorQ17
set_option maxRecDepth 1000000
set_option maxHeartbeats 8000000
set_option linter.unusedSimpArgs false
namespace Go.Proofs.YtengibnpebfblaaGreatDoor
open Go.RowKit
def hsN (s:Nat) (n:Int) (k:ByteArray):Nat:=tK (aAJ s k.data.toList) n
theorem aH2 (s:Nat) (n:Int) (k:ByteArray):hsN s n k<18446744073709551616:=aGW _ (aHX _)
def eQ (S:Nat->Prop) (w:World) (s:Nat) (n:Int) (L:List Ent) (c:Array Value):Prop:=
 ∃(bb:Nat) (a1:Option Addr) (n1 c1:Nat) (a2:Option Addr) (n2 c2:Nat),c=#[.int .u64 (s:Int),.int .i64 n,.int .i64 ((L.length:Nat):Int),.int .u32 (bb:Int),.slice a1 n1 c1,.slice a2 n2 c2]/\dF (hsN s n) S 13 w L #[.int .u32 (bb:Int),.slice a1 n1 c1,.slice a2 n2 c2]
section
variable {S S' : Nat → Prop} {w w' : World} {s : Nat} {n : Int} {L : List Ent} {c : Array Value}
theorem eQ.imp (h:eQ S w s n L c) (k:Kp S w w') (hS:∀g,S g->g<w.heap.size->S' g):eQ S' w' s n L c:=by
 obtain⟨bb,a1,n1,c1,a2,n2,c2,rfl,h⟩:=h;exact⟨_,_,_,_,_,_,_,rfl,h.imp k hS⟩
theorem eQ.kp (h:eQ S w s n L c) (k:Kp S w w'):eQ S w' s n L c:=h.imp k fun _ h _=>h
theorem eQ.later (h:eQ S w s n L c) (hb:Below w.heap.size w w'):eQ S w' s n L c:=h.kp (Kp.later hb)
theorem eQ.weak (h:eQ S w s n L c) (hS:∀g,S g->S' g):eQ S' w s n L c:=h.imp (fun _ _ _ _ e=>e) fun g h _=>hS g h
theorem eQ.old (h:eQ S w s n L c):eQ (fun g=>S g/\g<w.heap.size) w s n L c:=h.imp (fun _ _ _ _ e=>e) fun _ h h'=>⟨h,h'⟩
theorem eQ.size (h:eQ S w s n L c):c.size=6:=by
 obtain⟨_,_,_,_,_,_,_,rfl,_⟩:=h;rfl
theorem eQ.one (h:eQ S w s n L c):c.all (·.oneCell')=true:=by
 obtain⟨_,_,_,_,_,_,_,rfl,_⟩:=h;simp[Value.oneCell']
theorem eQ.zero (S:Nat->Prop) (w:World) (s:Nat) (n:Int):eQ S w s n [] #[.int .u64 (s:Int),.int .i64 n,.int .i64 0,.int .u32 0,.slice none 0 0,.slice none 0 0]:=
 ⟨0,none,0,0,none,0,0,rfl,dF.zero _ _ _ _⟩
end
theorem pW {V:World} {X:Nat} {x0 x1 x2 a b d:Value} {T:TypeId} {fr:Nat×Nat} (h:V.heap[X]? =some (.cells #[x0,x1,x2,a,b,d] T fr)):V.rangeAt X 3 (#[a,b,d]:Array Value).toList:=fun j u hu=>by
 refine aK h ?_;rcases j with _|_|_|j
 ·simpa using hu
 ·simpa using hu
 ·simpa using hu
 ·simp at hu
theorem eA {w w1:World} {c:Array Value} {T:TypeId} (h:w.alloc (.cells c T)=w1):Below w.heap.size w w1/\w1.heap[w.heap.size]? =some (.cells c T (0,0))/\w1.heap.size=w.heap.size+1:=by
 exact Al1
theorem aO1 (w:World) (s:Nat) (n:Int) (l bb:Nat) (a1:Option Addr) (n1 c1:Nat) (a2:Option Addr) (n2 c2:Nat):
  Calls Tryz.prog 90 #[.agg #[.int .u64 (s:Int),.int .i64 n,.int .i64 ((l:Nat):Int),.int .u32 (bb:Int),.slice a1 n1 c1,.slice a2 n2 c2]] w fun r w'=>r=.returned (.int .i64 (l:Int))/\Below w.heap.size w w':=by
 obtain⟨w1,hw1⟩:∃w1,w.alloc (.cells #[.int .u64 (s:Int),.int .i64 n,.int .i64 ((l:Nat):Int),.int .u32 (bb:Int),.slice a1 n1 c1,.slice a2 n2 c2] 98)=w1:=⟨_,rfl⟩
 obtain⟨hb1,hx1,hs1⟩:=eA hw1;have ca2:w1.cell? ⟨w.heap.size,2,none⟩=some (.int .i64 (l:Int)):=aK hx1 rfl;have HB1:=iH hb1;clear hx1 hs1 hb1;go_enter Tryz.func90,Tryz.ntmps90;go_wp2_with fail
 go_ret;exact⟨rfl,HB1.out⟩
theorem aLm (w:World) (s:Nat) (hss:s<18446744073709551616) (n:Int) (l bb:Nat) (a1:Option Addr) (n1 c1:Nat) (a2:Option Addr) (n2 c2:Nat) (k:ByteArray) (hk:k.size<=9223372036854775800):
  Calls Tryz.prog 115 #[.agg #[.int .u64 (s:Int),.int .i64 n,.int .i64 ((l:Nat):Int),.int .u32 (bb:Int),.slice a1 n1 c1,.slice a2 n2 c2],.string k] w fun r w'=>r=.returned (.int .u64 (hsN s n k:Nat))/\Below w.heap.size w w':=by
 obtain⟨w1,hw1⟩:∃w1,w.alloc (.cells #[.int .u64 (s:Int),.int .i64 n,.int .i64 ((l:Nat):Int),.int .u32 (bb:Int),.slice a1 n1 c1,.slice a2 n2 c2] 98)=w1:=⟨_,rfl⟩
 obtain⟨hb1,hx1,hs1⟩:=eA hw1;have HX1:=iH hx1;have HB1:=iH hb1;have HS1:=iH hs1;have HTX:=iH (fun W=>aFz s k hss hk W);have HNA:=iH (fun W=>aBB (aAJ s k.data.toList) n (aHX _) W);have hh:tK (aAJ s k.data.toList) n=hsN s n k:=rfl;rw[hh]at HNA;obtain⟨sm,hsm⟩:∃sm,sm=hsN s n k:=⟨_,rfl⟩
 rw[<-hsm]at HNA ⊢;obtain⟨tx,htx⟩:∃tx,tx=aAJ s k.data.toList:=⟨_,rfl⟩
 rw[<-htx]at HNA HTX;clear hx1 hs1 hb1 hh hsm htx hss hk;go_enter Tryz.func115,Tryz.ntmps115;go_upto_region 1 with fail
 clear hw1;have HKS:Hid (∀V,Below w1.heap.size w1 V->(V.cell? ⟨w.heap.size,0,none⟩=some (.int .u64 (s:Int))/\V.cell? ⟨w.heap.size,1,none⟩=some (.int .i64 n))):=fun V hV=>
  have h:=(hV.block _ uBx).trans HX1.out
  ⟨aK h rfl,aK h rfl⟩
 have HW:Hid (Below w1.heap.size w1 w1.drew):=bE w1;refine bL (S:=(fun V=>V.cell? ⟨w.heap.size,0,none⟩=some (.int .u64 (s:Int))/\V.cell? ⟨w.heap.size,1,none⟩=some (.int .i64 n))) [] hO uAw (fun hHeld=> ?_);refine tkA 0 5 (h:=?_);refine tkA 1 6 (h:=?_);(try simp only[pq]);refine tkA 2 7 (h:=?_);refine tkA 3 8 (h:=?_);(try simp only[pq]);refine pM (i:=4) (oi:=⟨some 9,_,_,_,_,_⟩) (v:=.int .u64 (tx:Int)) rfl hO hO hO hO (fun _ _ _ h=>h) ⟨by rfl,fun w hSw=>⟨42,#[.int .u64 (s:Int),.string k],?hg2_4,(HTX.out w).mono fun _ _ h=>⟨h.1,h.2.symm⟩⟩⟩ uAx ?rg2_4
 case hg2_4=>go_simp
 (try simp only[pq]);refine tkA 5 10 (h:=?_);refine tkA 6 11 (h:=?_);(try simp only[pq]);refine tkA 7 12 (h:=?_);(try simp only[pq]);refine pM (i:=8) (oi:=⟨some 13,_,_,_,_,_⟩) (v:=.int .u64 (sm:Int)) rfl hO hO hO hO (fun _ _ _ h=>h) ⟨by rfl,fun w hSw=>⟨133,#[.int .u64 (tx:Int),.int .i64 n],?hg2_8,(HNA.out w).mono fun _ _ h=>⟨h.1,h.2.symm⟩⟩⟩ uAx ?rg2_8
 case hg2_8=>go_simp
 (try simp only[pq]);refine tkA 9 4 (h:=?_);(try simp only[pq]);refine bK hO ?_ _;clear hHeld;go_wp2_with fail
 go_ret;exact⟨rfl,tW HB1.out HW.out⟩
theorem aDl {W:World} {b:Nat} {hs:ByteArray->Nat} {e:Ent} {T:TypeId} {fr:Nat×Nat} (h:W.heap[b]? =some (.cells (aEi hs e) T fr)):W.rangeAt b 2 (enV e.2):=fun j u hu=>aK h (by
 have hj:j<4:=(List.getElem?_eq_some_iff.1 hu).1;have e':(aEi hs e)[2+j]? =(enV e.2)[j]? :=by
  match j,hj with
  |0,_=>rfl
  |1,_=>rfl
  |2,_=>rfl
  |3,_=>rfl
 rw[e'];exact hu)
theorem aO2 {S:Nat->Prop} (w:World) (s:Nat) (hss:s<18446744073709551616) (n:Int) (L:List Ent) (c:Array Value) (k:ByteArray) (hk:k.size<=9223372036854775800) (h:eQ S w s n L c) (hL:iO L) (hn:L.length<=50000):
  Calls Tryz.prog 92 #[.agg c,.string k] w fun r w'=>r=.returned (.tuple #[.agg (aX ((gL L k).getD gT)),.bool (gL L k).isSome])/\Below w.heap.size w w':=by
 obtain⟨bb,a1,n1,c1,a2,n2,c2,rfl,hnd⟩:=h;obtain⟨l,hl⟩:∃l,l=L.length:=⟨_,rfl⟩
 rw[<-hl];have HSUM:=iH (fun W=>aLm W s hss n l bb a1 n1 c1 a2 n2 c2 k hk);have HFI:=iH (fun W (hb:Below w.heap.size w W)=>aEc (hsN s n) (aH2 s n) 13 (aE _) (fun g=>S g/\g<w.heap.size) W L _ k (hnd.old.later hb) hL (aG hn uAu));rw[show(((13-13:Nat):Nat):Int)=0 from rfl]at HFI;obtain⟨sm,hsm⟩:∃sm,sm=hsN s n k:=⟨_,rfl⟩
 rw[<-hsm]at HSUM HFI;obtain⟨w1,hw1⟩:∃w1,(w.alloc (.cells #[.int .u64 (s:Int),.int .i64 n,.int .i64 ((l:Nat):Int),.int .u32 (bb:Int),.slice a1 n1 c1,.slice a2 n2 c2] 98)).alloc (.cells #[.int .i64 0,.int .i64 0,.string ⟨#[]⟩,.pointer none] 35)=w1:=⟨_,rfl⟩
 obtain⟨hb1,hx1,hy1,hs1⟩:=kF hw1;have HY1:=iH hy1;have HX1:=iH hx1;have HB1:=iH hb1;have HS1:=iH hs1;clear hx1 hy1 hs1 hb1 hsm hss hk hnd hL hn hl;go_enter Tryz.func92,Tryz.ntmps92;go_upto_region 1 with fail
 clear hw1;have HKS:Hid (∀V,Below w1.heap.size w1 V->(V.heap[w.heap.size]? =some (.cells #[.int .u64 (s:Int),.int .i64 n,.int .i64 ((l:Nat):Int),.int .u32 (bb:Int),.slice a1 n1 c1,.slice a2 n2 c2] 98 (0,0)))):=fun V hV=>(hV.block _ uBx).trans HX1.out
 have HW:Hid (Below w1.heap.size w1 w1.drew):=bE w1;refine bL (S:=(fun V=>V.heap[w.heap.size]? =some (.cells #[.int .u64 (s:Int),.int .i64 n,.int .i64 ((l:Nat):Int),.int .u32 (bb:Int),.slice a1 n1 c1,.slice a2 n2 c2] 98 (0,0)))) [] hO uAw (fun hHeld=> ?_);refine tkA 0 8 (h:=?_);refine tyA 1 9 (hy:=bT uAz 96 _ rfl w.heap.size 3 rfl #[.int .u32 (bb:Int),.slice a1 n1 c1,.slice a2 n2 c2] _ (fun w hw=>(pW hw)) Tryz.underlying96 rfl uUu) (h:=?_);(try simp only[pq]);refine tyA 2 10 (hy:=aP uAz 98 _ rfl w.heap.size rfl #[.int .u64 (s:Int),.int .i64 n,.int .i64 ((l:Nat):Int),.int .u32 (bb:Int),.slice a1 n1 c1,.slice a2 n2 c2] 98 (0,0) _ (fun w hw=>hw) Tryz.underlying98 rfl (by exact fV)) (h:=?_);refine tkA 3 11 (h:=?_);(try simp only[pq]);refine tkA 5 13 (h:=?_);(try simp only[pq]);refine tkO 4 (some 12) (h:=fun K hK=> ?_);go_simp;go_at_call 115;refine(HSUM.out _).mono ?_;rintro r w2 ⟨rfl,hb⟩;replace HW:=iH (tW HW.out hb);clear hb;dsimp only;refine hK.out _ _ uAw (fun hHeld=> ?_);clear hK K;(try simp only[pq]);refine tkO 6 (some 14) (h:=fun K hK=> ?_);go_simp;go_at_call 114;refine(HFI.out _ (tW HB1.out HW.out)).mono ?_;rintro r w3 ⟨p,rfl,hp,hb⟩;have HFO:=iH hp;replace HW:=iH (tW HW.out hb);clear hb hp;dsimp only;refine hK.out _ _ uAw (fun hHeld=> ?_);clear hK K;(try simp only[pq]);refine tkA 7 6 (h:=?_);(try simp only[pq]);refine bK hO ?_ _;clear hHeld;have HWW:=iH (tW HB1.out HW.out);have HY3:=iH ((HW.out.block _ uBx).trans HY1.out);have HL3:Hid (w.heap.size+1<w3.heap.size):=by show _<_;have:=HW.out.size;have:=HS1.out;omega
 have hp:=HFO.out;unfold lR at hp;cases hg:gL L k with
 |none=>
  rw[hg]at hp;obtain rfl:p=none:=hp;have HGG:=iH hg;clear hg HFO;unfold pv;go_wp2_with (first
   |(refine bR rfl 35 _ rfl w3.heap.size rfl 35 _ _ _ (aF _ _) Tryz.underlying35 rfl aR ?_)
   |(refine bV rfl 35 _ _ rfl (w.heap.size+1) #[.int .i64 0,.int .i64 0,.string ⟨#[]⟩,.pointer none] rfl rfl 35 _ (((Below.newly' w3 _).block _ HL3.out).trans HY3.out) aR rfl uAy ?_;intro w6 h6 k6))
  exact bF (bU rfl _ _ (w.heap.size+1) 35 _ (0,0) _ rfl h6 Tryz.underlying35 rfl aR) rfl ⟨by rw[HGG.out];rfl,(HWW.out.trans ((Below.newly' w3 _).mono HWW.out.size)).trans (k6.below uAu)⟩
 |some x=>
  rw[hg]at hp;obtain⟨b,rfl,hb⟩:=hp;have HRV:Hid (w3.rangeAt b 2 (enV x)):=by
   obtain⟨_,fr,h⟩:=hb;exact aDl h
  have HGG:=iH hg;clear hg hb HFO;unfold pv;go_wp2_with (first
   |(refine dA rfl 35 _ rfl b 2 rfl (enV x) _ HRV.out Tryz.underlying35 rfl aR ?_)
   |(refine bV rfl 35 _ _ rfl (w.heap.size+1) (aX x) rfl rfl 35 _ HY3.out aR rfl (eU x) ?_;intro w6 h6 k6))
  exact bF (bU rfl _ _ (w.heap.size+1) 35 _ (0,0) _ rfl h6 Tryz.underlying35 rfl aR) rfl ⟨by rw[HGG.out];rfl,HWW.out.trans (k6.below uAu)⟩
end Go.Proofs.YtengibnpebfblaaGreatDoor
namespace Go.Proofs.YtengibnpebfblaaGreatDoor
open Go.RowKit
abbrev scV (k n:Int) (t:ByteArray):Value:=.agg #[.int .i64 k,.int .i64 n,.string t]
theorem aIq (t:ByteArray):t.data.toList=[]↔t=⟨#[]⟩:=by
 constructor
 ·intro h
  apply nA;apply mD.1;simpa using h
 ·rintro rfl;rfl
theorem qY (t:ByteArray):t.toList.isEmpty=decide (t.data.toList=[]):=by
 rw[eJ];cases t.data.toList<;>simp
theorem aBm (k n:Int) (t:ByteArray) (w:World):
  Calls Tryz.prog 97 #[scV k n t] w fun e w'=>e=.returned (.int .i64 (fH (k,n,t.data.toList)))/\Below w.heap.size w w':=by
 have HN:=iH (Below.newly' w (.cells #[.int .i64 k,.int .i64 n,.string t] 32));have te:=qY t;by_cases h1:k<0
 ·clear te
  go_enter Tryz.func97,Tryz.ntmps97;go_wp2
  go_ret;exact⟨kO (by simp[fH,h1]),HN.out⟩
 by_cases h2:3<k
 ·clear te
  go_enter Tryz.func97,Tryz.ntmps97;go_wp2
  go_ret;exact⟨kO (by simp[fH,h2]),HN.out⟩
 by_cases ht0:t.data.toList=[]
 ·rw[lY ht0]at te
  have HT:=iH ht0;clear ht0;rcases(show k=0\/k=1\/k=2\/k=3 by omega)with rfl|rfl|rfl|rfl
  ·by_cases hn:n=0
   ·subst hn
    exact Ae9
   ·exact Ac1
  ·by_cases hn:n=0
   ·subst hn
    exact Ae9
   ·by_cases hm:n=1
    ·subst hm
     exact Ae9
    ·have hn':(n !=0)=true:=pZ.2 hn
     have hm':(n !=1)=true:=pZ.2 hm;go_enter Tryz.func97,Tryz.ntmps97;go_wp2
     go_ret;exact⟨kO (by rw[HT.out];simp[fH,hn,hm]),HN.out⟩
  ·go_enter Tryz.func97,Tryz.ntmps97
   go_wp2
   go_ret;exact⟨kO (by rw[HT.out,aAY]),HN.out⟩
  ·by_cases hn:n=0
   ·exact Ai2
   ·exact Ac1
 ·rw[fA ht0]at te
  have HT:=iH ht0;clear ht0;by_cases h3:k=3
  ·subst h3
   by_cases hn:n=0
   ·exact Ai2
   ·exact Ac1
  ·by_cases h0:k=0
   ·subst h0
    by_cases hn:n=0
    ·subst hn
     go_enter Tryz.func97,Tryz.ntmps97;go_wp2
     go_ret;exact⟨kO uOv,HN.out⟩
    ·exact Ac1
   ·have h3':(k !=3)=true:=pZ.2 h3
    have h3'':(k==3)=false:=bJ.2 h3;have h0':(k==0)=false:=bJ.2 h0;have hk1:0<=k:=by omega
    have hk2:k<=3:=by omega
    have HC:Hid (fH (k,n,t.data.toList)=1):=by
     show _=_;simp[fH,h1,h2,h3,h0,HT.out]
    clear h1 h2;go_enter Tryz.func97,Tryz.ntmps97;go_wp2
    go_ret;exact⟨kO (by rw[HC.out]),HN.out⟩
theorem aI3 {W:World} {c:Array Value} {T:TypeId} {w1:World} (e:W.alloc (.cells c T)=w1):Below W.heap.size W w1/\w1.heap[W.heap.size]? =some (.cells c T (0,0))/\w1.heap.size=W.heap.size+1:=by
 exact Al0
theorem dS.four {S:Nat->Prop} {W:World} {c:Array Value} {l:List Cel} (h:dS S W c l):∃(x y:Int) (q1:Option Addr) (n1 c1:Nat) (q2:Option Addr) (n2 c2:Nat),c=#[.int .i64 x,.int .i64 y,.slice q1 n1 c1,.slice q2 n2 c2]:=by
 obtain⟨d,q1,n1,c1,q2,n2,c2,rfl,_⟩:=h.cells;exact⟨_,_,_,_,_,_,_,_,rfl⟩
theorem aBh {S:Nat->Prop} {c:Array Value} {l:List Cel} (w:World) (h:dS S w c l) (i:Int):Calls Tryz.prog 81 #[.agg c,.int .i64 i] w fun e w'=>e=.returned (.bool (decide (0<=i/\i<l.length)))/\Below w.heap.size w w':=by
 obtain⟨w1,hw1⟩:∃w1,w.alloc (.cells c 88)=w1:=⟨_,rfl⟩
 obtain⟨hb1,hx1,hs1⟩:=aI3 hw1;have HX1:=iH hx1;have HB1:=iH hb1;have HS:=iH h.size;have HLEN:=iH (aDR w1 (h.later hb1));obtain⟨n,hn⟩:∃n,n=l.length:=⟨_,rfl⟩
 rw[<-hn]at HLEN ⊢;clear h hb1 hx1 hs1 hn;by_cases h0:0<=i
 ·by_cases h1:i<n
  ·rw[show decide (0<=i/\i<n)=true by simp[h0,h1]]
   go_enter Tryz.func81,Tryz.ntmps81;go_upto_region 1 with fail
   clear hw1;go_wp2_with (first
    |(refine bR rfl 88 _ rfl w.heap.size rfl 88 _ _ _ HX1.out Tryz.underlying88 rfl uEz ?_)
    |(go_at_call 82;refine HLEN.out.mono ?_;rintro e w2 ⟨rfl,rfl⟩))
   go_ret;exact⟨rfl,HB1.out.trans ((Below.newly' _ _).mono HB1.out.size)⟩
  ·rw[show decide (0<=i/\i<n)=false by simp[h1]]
   go_enter Tryz.func81,Tryz.ntmps81;go_upto_region 1 with fail
   clear hw1;go_wp2_with (first
    |(refine bR rfl 88 _ rfl w.heap.size rfl 88 _ _ _ HX1.out Tryz.underlying88 rfl uEz ?_)
    |(go_at_call 82;refine HLEN.out.mono ?_;rintro e w2 ⟨rfl,rfl⟩))
   go_ret;exact⟨by show Ending.returned (Value.bool (decide (i<(n:Int))))=_;simp[h1],HB1.out.trans ((Below.newly' _ _).mono HB1.out.size)⟩
 ·rw[show decide (0<=i/\i<n)=false by simp[h0]]
  go_enter Tryz.func81,Tryz.ntmps81;go_wp2_with fail
  go_ret;exact⟨rfl,HB1.out⟩
theorem rp_Of (W:World) {S:Nat->Prop} (v:Value) (l:List Cel) (hv:bZ S W 4 v (ivV l) l.length) (hN:l.length<=100000):
    Calls Tryz.prog 118 #[v] W fun e W'=>∃c,e=.returned (.agg c)/\dS (fun g=>W.heap.size<=g) W' c l/\Below W.heap.size W W':=by
  obtain⟨w1,hw1⟩:∃w1,W.alloc (.cells #[.int .i64 0,.int .i64 0,.slice none 0 0,.slice none 0 0] 88)=w1:=⟨_,rfl⟩
  obtain⟨hb1,hx1,hs1⟩:=aI3 hw1;have HX1:=iH hx1;have HB1:=iH hb1;have HS1:=iH hs1;have HL:=iH (aBJ (S:=S) w1 [(v,l)] (fun p hp=>by simp only[cB]at hp;subst hp;exact hv.later hb1) l (by simp[eZ]) hN uBu);obtain⟨a,cap,rfl,_⟩:=hv.shape;have HN:=iH hN;clear hb1 hx1 hs1 hv hN;go_enter Tryz.func118,Tryz.ntmps118;go_upto_region 1 with fail
  clear hw1;go_wp2_with (first
    |(go_at_call 110
      refine HL.out.mono ?_;rintro e w4 ⟨v4,rfl,ks,hn4,hc4,hf4,hb4⟩;have HT:=iH (aGL w4 0 v4 ks hn4 (fun p hp=>⟨fun h=>(hf4.2 p hp).1 h,fun _=>.inl rfl⟩) (by rw[hc4];exact HN.out));rw[hc4]at HT;have HB4:=iH hb4;have HX4:=iH ((hb4.block W.heap.size uBx).trans HX1.out);clear hn4 hc4 hf4 hb4)
    |(go_at_call 83
      refine HT.out.mono ?_;rintro e w5 ⟨c5,rfl,hr5,hb5⟩;obtain⟨x,y,q1,n1,c1,q2,n2,c2,rfl⟩:=hr5.four;have HR5:=iH hr5;have HB5:=iH hb5;have HX5:=iH ((hb5.block W.heap.size (by have:=HS1.out;have:=HB4.out.size;omega)).trans HX4.out);clear hr5 hb5)
    |(refine bV rfl 88 _ _ rfl W.heap.size _ rfl rfl 88 _ HX5.out eL rfl (aMG rfl rfl rfl rfl) ?_;intro w6 h6 k6))
  refine bF (cE rfl _ _ W.heap.size 88 _ (0,0) _ rfl h6 Tryz.underlying88 rfl eL) rfl ⟨_,rfl,?_,?_⟩
  ·have hs1:=HS1.out
   have hs4:=HB4.out.size;refine(HR5.out.kept k6.by_ (fun X e=>by cases e;rintro(h|h)<;>omega)).weak fun g hg=> ?_
   rcases hg with hg|hg<;>omega
  ·have hs1:=HS1.out
   have hs4:=HB4.out.size;exact((HB1.out.trans (HB4.out.mono uAu)).trans (HB5.out.mono uAu)).trans (k6.below uAu)
end Go.Proofs.YtengibnpebfblaaGreatDoor
namespace Go.Proofs
open Go.Shelf
def Tryz.sortL_ren:Go.Shelf.Ren:=⟨fun|6=>124|15=>140|14=>139|28=>162|29=>163|20=>154|21=>155|22=>156|23=>157|24=>158|25=>159|26=>160|27=>161|46=>180|47=>181|48=>182|49=>183|50=>184|57=>192|n=>n,fun|22=>94|24=>161|25=>176|3=>3|39=>134|0=>0|53=>90|55=>22|4=>4|46=>210|45=>209|50=>58|5=>5|9=>9|66=>229|70=>233|76=>241|77=>166|n=>n,fun|n=>n⟩
theorem Tryz.sortL:Go.Proofs.SlLaysF.n6 Tryz.prog Tryz.sortL_ren:={
 mixed:=by kernel_rfl
 f6:=⟨Tryz.f124.name,by decide,Tryz.func124.trans (bH some hO)⟩
 f14:=⟨Tryz.f139.name,by decide,Tryz.func139.trans (bH some hO)⟩
 f15:=Tryz.func140.trans (bH some hO)
 f20:=⟨Tryz.f154.name,by decide,Tryz.func154.trans (bH some hO)⟩
 f21:=⟨Tryz.f155.name,by decide,Tryz.func155.trans (bH some hO)⟩
 f22:=⟨Tryz.f156.name,by decide,Tryz.func156.trans (bH some hO)⟩
 f23:=⟨Tryz.f157.name,by decide,Tryz.func157.trans (bH some hO)⟩
 f24:=⟨Tryz.f158.name,by decide,Tryz.func158.trans (bH some hO)⟩
 f25:=⟨Tryz.f159.name,by decide,Tryz.func159.trans (bH some hO)⟩
 f26:=⟨Tryz.f160.name,by decide,Tryz.func160.trans (bH some hO)⟩
 f27:=⟨Tryz.f161.name,by decide,Tryz.func161.trans (bH some hO)⟩
 f28:=Tryz.func162.trans (bH some hO)
 f29:=Tryz.func163.trans (bH some hO)
 f46:=⟨Tryz.f180.name,by decide,Tryz.func180.trans (bH some hO)⟩
 f47:=Tryz.func181.trans (bH some hO)
 f48:=Tryz.func182.trans (bH some hO)
 f49:=⟨Tryz.f183.name,by decide,Tryz.func183.trans (bH some hO)⟩
 f50:=⟨Tryz.f184.name,by decide,Tryz.func184.trans (bH some hO)⟩
 f57:=⟨Tryz.f192.name,by decide,Tryz.func192.trans (bH some hO)⟩
 t0:=Tryz.underlying0
 a0:=Tryz.isAgg0
 z0:=Tryz.sizeOf0
 v0:=Tryz.zeroValue0
 t3:=Tryz.underlying3
 a3:=Tryz.isAgg3
 z3:=Tryz.sizeOf3
 v3:=Tryz.zeroValue3
 t4:=Tryz.underlying4
 a4:=Tryz.isAgg4
 z4:=Tryz.sizeOf4
 v4:=Tryz.zeroValue4
 t5:=Tryz.underlying5
 a5:=Tryz.isAgg5
 z5:=Tryz.sizeOf5
 v5:=Tryz.zeroValue5
 t9:=Tryz.underlying9
 a9:=Tryz.isAgg9
 z9:=Tryz.sizeOf9
 v9:=Tryz.zeroValue9
 t22:=Tryz.underlying94
 a22:=Tryz.isAgg94
 z22:=Tryz.sizeOf94
 v22:=Tryz.zeroValue94
 a24:=Tryz.isAgg161
 z24:=Tryz.sizeOf161
 t25:=Tryz.underlying176
 a25:=Tryz.isAgg176
 z25:=Tryz.sizeOf176
 v25:=Tryz.zeroValue176
 t39:=Tryz.underlying134
 a39:=Tryz.isAgg134
 z39:=Tryz.sizeOf134
 v39:=Tryz.zeroValue134
 t45:=Tryz.underlying209
 a45:=Tryz.isAgg209
 z45:=Tryz.sizeOf209
 v45:=Tryz.zeroValue209
 t46:=Tryz.underlying210
 a46:=Tryz.isAgg210
 z46:=Tryz.sizeOf210
 v46:=Tryz.zeroValue210
 t50:=Tryz.underlying58
 a50:=Tryz.isAgg58
 z50:=Tryz.sizeOf58
 v50:=Tryz.zeroValue58
 t53:=Tryz.underlying90
 a53:=Tryz.isAgg90
 z53:=Tryz.sizeOf90
 v53:=Tryz.zeroValue90
 t55:=Tryz.underlying22
 a55:=Tryz.isAgg22
 z55:=Tryz.sizeOf22
 v55:=Tryz.zeroValue22
 t66:=Tryz.underlying229
 a66:=Tryz.isAgg229
 z66:=Tryz.sizeOf229
 v66:=Tryz.zeroValue229
 t70:=Tryz.underlying233
 a70:=Tryz.isAgg233
 z70:=Tryz.sizeOf233
 v70:=Tryz.zeroValue233
 t76:=Tryz.underlying241
 a76:=Tryz.isAgg241
 z76:=Tryz.sizeOf241
 v76:=Tryz.zeroValue241
 t77:=Tryz.underlying166
 a77:=Tryz.isAgg166
 z77:=Tryz.sizeOf166
 v77:=Tryz.zeroValue166}
end Go.Proofs
