import Derived.Test.YtengibnpebfblaaGreatDoorQ0
import Derived.Test.YtengibnpebfblaaGreatDoorQ42
import Derived.Test.YtengibnpebfblaaGreatDoorQ49
set_option maxRecDepth 1000000
set_option maxHeartbeats 8000000
set_option linter.unusedSimpArgs false
namespace Go.Proofs.YtengibnpebfblaaGreatDoor
open Go.RowKit
theorem aCI (w:World):TxV w (.slice none 0 0) []:=⟨none,0,0,0,rfl,fun h=>absurd h uAv,fun j h=>absurd h uBu,by decide⟩
theorem aDL (w:World) {k n:Int} (hk:InR k) (hn:InR n):TrV w (.nd k n ⟨#[]⟩ [] []) (.agg (trC k n ⟨#[]⟩ (.slice none 0 0) (.slice none 0 0))):=by
 rw[TrV];exact⟨_,_,rfl,by decide,hk,hn,⟨none,0,0,0,rfl,fun h=>absurd h uAv,fun j h=>absurd h uBu,by decide⟩,none,0,0,0,rfl,fun h=>absurd h uAv,by decide,by rw[Go.Proofs.YtengibnpebfblaaGreatDoor.TrL];trivial⟩
def lnN (i:Nat):Int:=if i=2 then-1 else 0
def lfT (i:Nat):Tr:=.nd (i:Int) (lnN i) ⟨#[]⟩ [] []
theorem aFE (i:Nat) (h:i<7):OkT (lfT i):=by
 unfold lfT;rw[OkT,OkL];refine⟨mF.2 ?_,trivial,fun _=>by rw[cV];exact wX⟩
 match i,h with
 |0,_=>exact .inl ⟨by decide,by decide,by decide,rfl,rfl⟩
 |1,_=>exact .inl ⟨by decide,by decide,by decide,rfl,rfl⟩
 |2,_=>exact .inl ⟨by decide,by decide,by decide,rfl,rfl⟩
 |3,_=>exact .inl ⟨by decide,by decide,by decide,rfl,rfl⟩
 |4,_=>exact .inr ⟨rfl,rfl,.inl ⟨rfl,rfl⟩⟩
 |5,_=>exact .inr ⟨rfl,rfl,.inr (.inl ⟨rfl,rfl,wX⟩)⟩
 |6,_=>exact .inr ⟨rfl,rfl,.inr (.inr ⟨rfl,rfl⟩)⟩
 |k+7,h=>exact absurd h uAu
theorem aBI (i:Nat):cU (lfT i)=lfT i:=by
 unfold lfT;rw[cU];split
 ·simp[cV,lJ]
 ·split
  ·simp[cV,lJ]
  ·rw[cV]
theorem aBF (i:Nat):fU (lfT i)=1:=by unfold lfT;simp[fU,eO]
theorem aBH (i:Nat):iX (lfT i)<=2:=by unfold lfT;simp[iX,jY];try split
theorem aNV (i:Nat) (h:i<7):oX (lfT i)=0:=mN.2 ⟨aFE i h,aG (aBH i) uAv,by rw[aBF];decide⟩
theorem aE8 (i:Nat):pF 2000 (lfT i):=by unfold lfT;rw[pF,aCi];exact⟨aQ _,trivial⟩
theorem aBE (i:Nat):jQ 3000 (lfT i):=by unfold lfT;rw[jQ,aCe];exact⟨aQ _,by simp,trivial⟩
theorem aA1 (i:Nat) (h:i<7):InR (i:Int)/\InR (lnN i):=⟨by unfold InR;omega,by unfold lnN InR;split<;>omega⟩
theorem aE7 (i:Nat) (h:i<7):dW (lfT i):=by
 have h1:=lG (aFE i h) (aG (aBH i) uAv) (by rw[aBF];decide) (by unfold lfT;rw[pE,zO];exact⟨(aA1 i h).2,trivial⟩) (aBE i);rwa[aBI]at h1
theorem lf_o (i:Nat) (h:i<7):aCt (lfT i)=lfT i:=by unfold aCt;rw[if_pos (aNV i h),aBI]
def lkey:Nat->List UInt8
 |0=>[1]
 |1=>[2,0]
 |2=>[3,127,255,255,255,255,255,255,255]
 |3=>[4,0,0]
 |4=>[5,0]
 |5=>[6,0]
 |_=>[7,0]
theorem aBG (i:Nat) (h:i<7):dG (lfT i)=lkey i:=by
 match i,h with
 |0,_=>unfold lfT;rw[dG,if_pos uAv];decide
 |1,_=>unfold lfT;rw[dG,if_pos uAv];decide
 |2,_=>unfold lfT;rw[dG,if_pos uAv];decide
 |3,_=>unfold lfT;rw[dG,if_pos uAv];decide
 |4,_=>unfold lfT;rw[dG,if_neg uAv,eP];decide
 |5,_=>unfold lfT;rw[dG,if_neg uAv,eP];decide
 |6,_=>unfold lfT;rw[dG,if_neg uAv,eP];decide
 |k+7,h=>exact absurd h uAu
theorem aL4 (i:Nat) (h:i<6):eC (lfT i) (lfT (i+1))= -1/\eC (lfT (i+1)) (lfT i)=1:=by
 unfold eC;rw[aBG i uAu,aBG (i+1) uAu]
 match i,h with
 |0,_=>decide
 |1,_=>decide
 |2,_=>decide
 |3,_=>decide
 |4,_=>decide
 |5,_=>decide
 |k+6,h=>exact absurd h uAu
def v1T:Tr:=.nd 4 0 ⟨#[]⟩ [] [lfT 2]
def v2T:Tr:=.nd 4 0 ⟨#[]⟩ [] [lfT 2,lfT 0]
theorem aNo:OkT v1T:=by
 unfold v1T;rw[OkT,OkL,OkL];exact⟨mF.2 (.inr ⟨rfl,rfl,.inl ⟨rfl,rfl⟩⟩),⟨aFE 2 uAv,trivial⟩,fun h=>absurd h uAv⟩
theorem aNn:OkT v2T:=by
 unfold v2T;rw[OkT,OkL,OkL,OkL];exact⟨mF.2 (.inr ⟨rfl,rfl,.inl ⟨rfl,rfl⟩⟩),⟨aFE 2 uAv,aFE 0 uAv,trivial⟩,fun h=>absurd h uAv⟩
theorem aJV:cU v1T=v1T:=by
 unfold v1T;rw[cU,if_neg uAv,if_neg uAv,cV,cV,aBI]
theorem aJU:cU v2T=v2T:=by
 unfold v2T;rw[cU,if_neg uAv,if_neg uAv,cV,cV,cV,aBI,aBI]
theorem aDI:oX v1T=0/\fU v1T=2/\iX v1T<=3:=by
 have h1:fU v1T=2:=by unfold v1T;simp[fU,eO,aBF]
 have h2:iX v1T<=3:=by unfold v1T;have:=aBH 2;simp[iX,jY];omega
 exact⟨mN.2 ⟨aNo,by omega,by omega⟩,h1,h2⟩
theorem aDF:oX v2T=0/\fU v2T=3/\iX v2T<=3:=by
 have h1:fU v2T=3:=by unfold v2T;simp[fU,eO,aBF]
 have h2:iX v2T<=3:=by unfold v2T;have:=aBH 2;have:=aBH 0;simp[iX,jY];omega
 exact⟨mN.2 ⟨aNn,by omega,by omega⟩,h1,h2⟩
theorem aDH:pF 2000 v1T/\jQ 3000 v1T/\pE v1T:=by
 unfold v1T;rw[pF,aCi,aCi,jQ,aCe,aCe,pE,zO,zO];exact⟨⟨aQ _,aE8 2,trivial⟩,⟨aQ _,by simp,aBE 2,trivial⟩,by decide,by unfold lfT;rw[pE,zO];exact⟨(aA1 2 uAv).2,trivial⟩,trivial⟩
theorem aDE:pF 2000 v2T/\jQ 3000 v2T/\pE v2T:=by
 unfold v2T;rw[pF,aCi,aCi,aCi,jQ,aCe,aCe,aCe,pE,zO,zO,zO];exact⟨⟨aQ _,aE8 2,aE8 0,trivial⟩,⟨aQ _,by simp,aBE 2,aBE 0,trivial⟩,by decide,by unfold lfT;rw[pE,zO];exact⟨(aA1 2 uAv).2,trivial⟩,by unfold lfT;rw[pE,zO];exact⟨(aA1 0 uAv).2,trivial⟩,trivial⟩
theorem aDG:dW v1T/\aCt v1T=v1T:=by
 have h1:=lG aNo (aG aDI.2.2 uAv) (by rw[aDI.2.1];decide) aDH.2.2 aDH.2.1;rw[aJV]at h1;exact⟨h1,by unfold aCt;rw[if_pos aDI.1,aJV]⟩
theorem aJT:dW v2T/\aCt v2T=v2T:=by
 have h1:=lG aNn (aG aDF.2.2 uAv) (by rw[aDF.2.1];decide) aDE.2.2 aDE.2.1;rw[aJU]at h1;exact⟨h1,by unfold aCt;rw[if_pos aDF.1,aJU]⟩
theorem aHq:eC v1T v2T= -1/\eC v1T v1T=0:=by
 have k1:dG v1T=[5,3,127,255,255,255,255,255,255,255,0]:=by
  unfold v1T;rw[dG,if_neg uAv,eP,eP,aBG 2 uAv];decide
 have k2:dG v2T=[5,3,127,255,255,255,255,255,255,255,1,0]:=by
  unfold v2T;rw[dG,if_neg uAv,eP,eP,eP,aBG 2 uAv,aBG 0 uAv];decide
 unfold eC;rw[k1,k2];exact⟨by decide,by decide⟩
theorem aOz (a:Tr):eC a a=0:=by unfold eC dM;rw[if_pos rfl]
theorem aL3 {w:World} {g:Nat} (h:w.heap[g]? =some (.cells #[.int .i64 0,.int .i64 0,.string ⟨#[]⟩,.slice none 0 0,.slice none 0 0,.int .i64 1,.int .i64 0,.string ⟨#[]⟩,.slice none 0 0,.slice none 0 0,.int .i64 2,.int .i64 (-1),.string ⟨#[]⟩,.slice none 0 0,.slice none 0 0,.int .i64 3,.int .i64 0,.string ⟨#[]⟩,.slice none 0 0,.slice none 0 0,.int .i64 4,.int .i64 0,.string ⟨#[]⟩,.slice none 0 0,.slice none 0 0,.int .i64 5,.int .i64 0,.string ⟨#[]⟩,.slice none 0 0,.slice none 0 0,.int .i64 6,.int .i64 0,.string ⟨#[]⟩,.slice none 0 0,.slice none 0 0] 28 (0,0))):∀i,i<7->w.rangeAt g (i*5) (trC (i:Int) (lnN i) ⟨#[]⟩ (.slice none 0 0) (.slice none 0 0)).toList:=fun i hi j v hv=>by
 refine aK h ?_
 match i,hi,hv with
 |0,_,hv=>
  match j,hv with
  |0,hv=>exact hv
  |1,hv=>exact hv
  |2,hv=>exact hv
  |3,hv=>exact hv
  |4,hv=>exact hv
  |k+5,hv=>simp at hv
 |1,_,hv=>
  match j,hv with
  |0,hv=>exact hv
  |1,hv=>exact hv
  |2,hv=>exact hv
  |3,hv=>exact hv
  |4,hv=>exact hv
  |k+5,hv=>simp at hv
 |2,_,hv=>
  match j,hv with
  |0,hv=>exact hv
  |1,hv=>exact hv
  |2,hv=>exact hv
  |3,hv=>exact hv
  |4,hv=>exact hv
  |k+5,hv=>simp at hv
 |3,_,hv=>
  match j,hv with
  |0,hv=>exact hv
  |1,hv=>exact hv
  |2,hv=>exact hv
  |3,hv=>exact hv
  |4,hv=>exact hv
  |k+5,hv=>simp at hv
 |4,_,hv=>
  match j,hv with
  |0,hv=>exact hv
  |1,hv=>exact hv
  |2,hv=>exact hv
  |3,hv=>exact hv
  |4,hv=>exact hv
  |k+5,hv=>simp at hv
 |5,_,hv=>
  match j,hv with
  |0,hv=>exact hv
  |1,hv=>exact hv
  |2,hv=>exact hv
  |3,hv=>exact hv
  |4,hv=>exact hv
  |k+5,hv=>simp at hv
 |6,_,hv=>
  match j,hv with
  |0,hv=>exact hv
  |1,hv=>exact hv
  |2,hv=>exact hv
  |3,hv=>exact hv
  |4,hv=>exact hv
  |k+5,hv=>simp at hv
 |k+7,hi,_=>exact absurd hi uAu
theorem aNA {w:World} {g:Nat} (h:w.heap[g]? =some (.cells #[.int .i64 2,.int .i64 (-1),.string ⟨#[]⟩,.slice none 0 0,.slice none 0 0] 28 (0,0))):TrV w v1T (.agg (trC 4 0 ⟨#[]⟩ (.slice none 0 0) (.slice (some ⟨g,0,none⟩) 1 1))):=by
 unfold v1T;rw[TrV];refine⟨_,_,rfl,by decide,by decide,by decide,aCI _,some ⟨g,0,none⟩,1,g,0,rfl,fun _=>rfl,by simp;decide,?_⟩;rw[Go.Proofs.YtengibnpebfblaaGreatDoor.TrL,Go.Proofs.YtengibnpebfblaaGreatDoor.TrL];refine⟨⟨_,rfl,?_,aDL _ (k:=2) (n:= -1) uAv uAv⟩,trivial⟩;exact Ag2
theorem aNz {w:World} {g:Nat} (h:w.heap[g]? =some (.cells #[.int .i64 2,.int .i64 (-1),.string ⟨#[]⟩,.slice none 0 0,.slice none 0 0,.int .i64 0,.int .i64 0,.string ⟨#[]⟩,.slice none 0 0,.slice none 0 0] 28 (0,0))):TrV w v2T (.agg (trC 4 0 ⟨#[]⟩ (.slice none 0 0) (.slice (some ⟨g,0,none⟩) 2 2))):=by
 unfold v2T;rw[TrV];refine⟨_,_,rfl,by decide,by decide,by decide,aCI _,some ⟨g,0,none⟩,2,g,0,rfl,fun _=>rfl,by simp;decide,?_⟩;rw[Go.Proofs.YtengibnpebfblaaGreatDoor.TrL,Go.Proofs.YtengibnpebfblaaGreatDoor.TrL,Go.Proofs.YtengibnpebfblaaGreatDoor.TrL];refine⟨⟨_,rfl,?_,aDL _ (k:=2) (n:= -1) uAv uAv⟩,⟨_,rfl,?_,aDL _ (k:=0) (n:=0) uAv uAv⟩,trivial⟩
 rotate_left
 all_goals
  exact Ag2
theorem aJ2 (w:World) (hT:fW w):Calls Tryz.prog 9 #[] w fun e w'=>e=.returned (.bool true)/\Below w.heap.size w w':=by
 have HT:=iH hT;have HW:Hid (Below w.heap.size w w):=aY _ _;clear hT;go_enter Tryz.func9,Tryz.ntmps9;go_upto_region 3 with(first
  |(refine bV rfl 24 _ _ rfl w.heap.size #[.int .u64 0,.int .i64 4] rfl rfl 24 #[.int .u64 0,.int .i64 0] (aF _ _) eG rfl uAy ?_;intro w2 h2 k2;have H2:=iH h2;replace HW:=iH ((Below.newly' w (.cells #[.int .u64 0,.int .i64 0] 24)).trans (k2.below (aE _)));clear h2 k2))
 obtain⟨G,hG⟩:∃G,G=w2.heap.size:=⟨_,rfl⟩
 obtain⟨w3,hw3⟩:∃w3,w3=w2.alloc (.cells #[.int .i64 0,.int .i64 0,.string ⟨#[]⟩,.slice none 0 0,.slice none 0 0,.int .i64 1,.int .i64 0,.string ⟨#[]⟩,.slice none 0 0,.slice none 0 0,.int .i64 2,.int .i64 (-1),.string ⟨#[]⟩,.slice none 0 0,.slice none 0 0,.int .i64 3,.int .i64 0,.string ⟨#[]⟩,.slice none 0 0,.slice none 0 0,.int .i64 4,.int .i64 0,.string ⟨#[]⟩,.slice none 0 0,.slice none 0 0,.int .i64 5,.int .i64 0,.string ⟨#[]⟩,.slice none 0 0,.slice none 0 0,.int .i64 6,.int .i64 0,.string ⟨#[]⟩,.slice none 0 0,.slice none 0 0] 28):=⟨_,rfl⟩
 have hb3:Below w2.heap.size w2 w3:=by rw[hw3];exact Below.newly' _ _
 have h3:w3.heap[G]? =some (.cells #[.int .i64 0,.int .i64 0,.string ⟨#[]⟩,.slice none 0 0,.slice none 0 0,.int .i64 1,.int .i64 0,.string ⟨#[]⟩,.slice none 0 0,.slice none 0 0,.int .i64 2,.int .i64 (-1),.string ⟨#[]⟩,.slice none 0 0,.slice none 0 0,.int .i64 3,.int .i64 0,.string ⟨#[]⟩,.slice none 0 0,.slice none 0 0,.int .i64 4,.int .i64 0,.string ⟨#[]⟩,.slice none 0 0,.slice none 0 0,.int .i64 5,.int .i64 0,.string ⟨#[]⟩,.slice none 0 0,.slice none 0 0,.int .i64 6,.int .i64 0,.string ⟨#[]⟩,.slice none 0 0,.slice none 0 0] 28 (0,0)):=by rw[hw3,hG];exact aF _ _
 rw[<-hw3,<-hG];have h2:=kW hb3 H2.out;have HKC:Hid (∀V,Below w3.heap.size w3 V->V.heap[w.heap.size]? =some (.cells #[.int .u64 0,.int .i64 4] 24 (0,0))/\∀i,i<7->V.rangeAt G (i*5) (trC (i:Int) (lnN i) ⟨#[]⟩ (.slice none 0 0) (.slice none 0 0)).toList):=fun V hb=>
  ⟨kW hb h2,fun i hi=>dB (aL3 h3 i hi) hb⟩
 have HB3:=iH (tW HW.out hb3);have HT3:=iH (fun V (hb:Below w3.heap.size w3 V)=>(HT.out.below HB3.out).below hb);have HOL:Hid (∀(i:Nat),i<7->∀W,Below w3.heap.size w3 W->Calls Tryz.prog 11 #[.agg #[.int .u64 0,.int .i64 4],.agg (trC (i:Int) (lnN i) ⟨#[]⟩ (.slice none 0 0) (.slice none 0 0))] W fun e w'=>∃y,e=.returned (.agg (aX y))/\VAt (fun _=>True) w' (lfT i) y/\Below W.heap.size W w'):=fun i hi W hb=>by
  have h:=aD7 0 4 (lfT i) _ W uAv (aDL W (aA1 i hi).1 (aA1 i hi).2) (aE8 i) (aBE i) (by rw[aBF];decide) (HT3.out W hb);rw[lf_o i hi]at h;exact Ae5
 clear hG hw3 hb3 h3 h2 H2 HW HT;go_wp2_with fail
 go_loopw [3,18] (fun x i W=>∃j:Nat,j<=6/\i=.int .i64 (j:Int)/\Below w3.heap.size w3 W) (fun _ i _=>6-(intOf i).toNat)
 case atStart=>exact⟨0,by decide,rfl,aY _ _⟩
 case round=>
  obtain⟨i,hi6,rfl,hbw⟩:=hrel;have HWR:=iH hbw;clear hbw;by_cases hlt:i<6
  case pos=>
   have hlt':(i:Int)<6:=by omega
   have i0:(0:Int)<=(i:Int):=by omega
   have i7:(i:Int)<7:=by omega
   have i8:(i:Int)+1<7:=by omega
   have i9:(0:Int)<=(i:Int)+1:=by omega
   have HOI0:=HOL.out i uAu;have HOJ0:=HOL.out (i+1) uAu;have hKS:∀V,Below w3.heap.size w3 V->V.heap[w.heap.size]? =some (.cells #[.int .u64 0,.int .i64 4] 24 (0,0))/\V.rangeAt G (i*5) (trC (i:Int) (lnN i) ⟨#[]⟩ (.slice none 0 0) (.slice none 0 0)).toList/\V.rangeAt G ((i+1)*5) (trC ((i+1:Nat):Int) (lnN (i+1)) ⟨#[]⟩ (.slice none 0 0) (.slice none 0 0)).toList:=fun V hb=>⟨(HKC.out V hb).1,(HKC.out V hb).2 i uAu,(HKC.out V hb).2 (i+1) uAu⟩
   obtain⟨n0,hn0⟩:∃n,n=lnN i:=⟨_,rfl⟩
   obtain⟨n1,hn1⟩:∃n,n=lnN (i+1):=⟨_,rfl⟩
   rw[<-hn0]at HOI0 hKS;rw[<-hn1]at HOJ0 hKS;have HOI:=iH HOI0;have HOJ:Hid (∀W,Below w3.heap.size w3 W->Calls Tryz.prog 11 #[.agg #[.int .u64 0,.int .i64 4],.agg (trC ((i:Int)+1) n1 ⟨#[]⟩ (.slice none 0 0) (.slice none 0 0))] W fun e w'=>∃y,e=.returned (.agg (aX y))/\VAt (fun _=>True) w' (lfT (i+1)) y/\Below W.heap.size W w'):=HOJ0;have HKS:Hid (∀V,Below w3.heap.size w3 V->V.heap[w.heap.size]? =some (.cells #[.int .u64 0,.int .i64 4] 24 (0,0))/\V.rangeAt G (i*5) (trC (i:Int) n0 ⟨#[]⟩ (.slice none 0 0) (.slice none 0 0)).toList/\V.rangeAt G ((i+1)*5) (trC ((i:Int)+1) n1 ⟨#[]⟩ (.slice none 0 0) (.slice none 0 0)).toList):=hKS;have HOR1:Hid (∀(x y:Cel) (W:World),Below w3.heap.size w3 W->VAt (fun _=>True) W (lfT i) x->VAt (fun _=>True) W (lfT (i+1)) y->Calls Tryz.prog 14 #[.agg (aX x),.agg (aX y)] W fun e w'=>e=.returned (.int .i64 (-1))/\Below W.heap.size W w'):=fun x y W hb hx hy=>by
    have h:=yQ (lfT i) (lfT (i+1)) x y W hx hy (aE7 i uAu) (aE7 (i+1) uAu) (HT3.out W hb);rw[(aL4 i hlt).1]at h;exact h
   have HOR2:Hid (∀(x y:Cel) (W:World),Below w3.heap.size w3 W->VAt (fun _=>True) W (lfT (i+1)) x->VAt (fun _=>True) W (lfT i) y->Calls Tryz.prog 14 #[.agg (aX x),.agg (aX y)] W fun e w'=>e=.returned (.int .i64 1)/\Below W.heap.size W w'):=fun x y W hb hx hy=>by
    have h:=yQ (lfT (i+1)) (lfT i) x y W hx hy (aE7 (i+1) uAu) (aE7 i uAu) (HT3.out W hb);rw[(aL4 i hlt).2]at h;exact h
   have HLT:=iH hlt;clear hn0 hn1 HOI0 HOJ0 hKS hlt;go_upto_region 6 with fail
   have hwr1:IntKind.i64.wrap ((i:Int)+1)=(i:Int)+1:=by rw[gE];omega
   have htn1:((i:Int)+1).toNat=i+1:=by omega
   have HW:Hid (Below w3.heap.size w3 wr.drew):=HWR.out.trans ((bE wr).mono HWR.out.size);refine bL (S:=(fun V=>V.heap[w.heap.size]? =some (.cells #[.int .u64 0,.int .i64 4] 24 (0,0))/\V.rangeAt G (i*5) (trC (i:Int) n0 ⟨#[]⟩ (.slice none 0 0) (.slice none 0 0)).toList/\V.rangeAt G ((i+1)*5) (trC ((i:Int)+1) n1 ⟨#[]⟩ (.slice none 0 0) (.slice none 0 0)).toList)) [] hO uAw (fun hHeld=> ?_);refine tyL 0 21 (hy:=aP uAz 24 _ rfl w.heap.size rfl #[.int .u64 0,.int .i64 4] 24 (0,0) _ (fun w hw=>hw.1) Tryz.underlying24 rfl uKv) (h:=?_);refine tkL 1 22 (h:=?_);(try simp only[pq]);refine tkL 2 23 (h:=?_);refine tkL 3 24 (h:=?_);(try simp only[pq]);refine tyL 4 25 (hy:=bT uAz 28 _ rfl G (i*5) rfl (trC (i:Int) n0 ⟨#[]⟩ (.slice none 0 0) (.slice none 0 0)) _ (fun w hw=>hw.2.1) Tryz.underlying28 rfl uCy) (h:=?_);refine tyL 6 27 (hy:=aP uAz 24 _ rfl w.heap.size rfl #[.int .u64 0,.int .i64 4] 24 (0,0) _ (fun w hw=>hw.1) Tryz.underlying24 rfl uKv) (h:=?_);(try simp only[pq]);refine tkL 7 28 (h:=?_);refine tkL 8 29 (h:=?_);(try simp only[pq]);refine tkL 9 30 (h:=?_);refine tkL 10 31 (h:=?_);(try simp only[pq]);refine tyL 11 32 (hy:=bT uAz 28 _ rfl G ((i+1)*5) rfl (trC ((i:Int)+1) n1 ⟨#[]⟩ (.slice none 0 0) (.slice none 0 0)) _ (fun w hw=>hw.2.2) Tryz.underlying28 rfl uCy) (h:=?_);(try simp only[pq]);refine tkO 5 (some 26) (h:=fun K hK=> ?_);go_simp;go_at_call 11;(with_reducible refine(HOI.out _ uBy).mono ?_);rintro r wo1 ⟨y1,rfl,hy,hb⟩;have HY1:=iH hy;replace HW:=iH (tW HW.out hb);clear hb hy;dsimp only;refine hK.out _ _ uAw (fun hHeld=> ?_);clear hK K;(try simp only[pq]);refine tkO 12 (some 33) (h:=fun K hK=> ?_);go_simp;go_at_call 11;(with_reducible refine(HOJ.out _ uBy).mono ?_);rintro r wo2 ⟨y2,rfl,hy,hb⟩
   replace HY1:=iH (HY1.out.later hb);have HY2:=iH hy;replace HW:=iH (tW HW.out hb);clear hb hy;dsimp only;refine hK.out _ _ uAw (fun hHeld=> ?_);clear hK K;(try simp only[pq]);refine tkO 13 (some 34) (h:=fun K hK=> ?_);go_simp;go_at_call 14;(with_reducible refine(HOR1.out _ _ _ uBy HY1.out HY2.out).mono ?_);rintro r wr12 ⟨rfl,hb⟩;replace HW:=iH (tW HW.out hb);clear hb;dsimp only;refine hK.out _ _ uAw (fun hHeld=> ?_);clear hK K;(try simp only[pq]);refine tkL 14 35 (h:=?_);refine tkL 15 36 (h:=?_);(try simp only[pq]);refine tyL 16 37 (hy:=aP uAz 24 _ rfl w.heap.size rfl #[.int .u64 0,.int .i64 4] 24 (0,0) _ (fun w hw=>hw.1) Tryz.underlying24 rfl uKv) (h:=?_);refine tkL 17 38 (h:=?_);(try simp only[pq]);refine tkL 18 39 (h:=?_);refine tkL 19 40 (h:=?_);(try simp only[pq]);refine tkL 20 41 (h:=?_);refine tyL 21 42 (hy:=bT uAz 28 _ rfl G ((i+1)*5) rfl (trC ((i:Int)+1) n1 ⟨#[]⟩ (.slice none 0 0) (.slice none 0 0)) _ (fun w hw=>hw.2.2) Tryz.underlying28 rfl uCy) (h:=?_);(try simp only[pq]);refine tyL 23 44 (hy:=aP uAz 24 _ rfl w.heap.size rfl #[.int .u64 0,.int .i64 4] 24 (0,0) _ (fun w hw=>hw.1) Tryz.underlying24 rfl uKv) (h:=?_);refine tkL 24 45 (h:=?_);(try simp only[pq]);refine tkL 25 46 (h:=?_);refine tkL 26 47 (h:=?_);(try simp only[pq]);refine tyL 27 48 (hy:=bT uAz 28 _ rfl G (i*5) rfl (trC (i:Int) n0 ⟨#[]⟩ (.slice none 0 0) (.slice none 0 0)) _ (fun w hw=>hw.2.1) Tryz.underlying28 rfl uCy) (h:=?_);(try simp only[pq]);refine tkO 22 (some 43) (h:=fun K hK=> ?_);go_simp;go_at_call 11;(with_reducible refine(HOJ.out _ uBy).mono ?_);rintro r wo3 ⟨y3,rfl,hy,hb⟩;have HY3:=iH hy;replace HW:=iH (tW HW.out hb);clear hb hy;dsimp only;refine hK.out _ _ uAw (fun hHeld=> ?_);clear hK K;(try simp only[pq])
   refine tkO 28 (some 49) (h:=fun K hK=> ?_);go_simp;go_at_call 11;(with_reducible refine(HOI.out _ uBy).mono ?_);rintro r wo4 ⟨y4,rfl,hy,hb⟩;replace HY3:=iH (HY3.out.later hb);have HY4:=iH hy;replace HW:=iH (tW HW.out hb);clear hb hy;dsimp only;refine hK.out _ _ uAw (fun hHeld=> ?_);clear hK K;(try simp only[pq]);refine tkO 29 (some 50) (h:=fun K hK=> ?_);go_simp;go_at_call 14;(with_reducible refine(HOR2.out _ _ _ uBy HY3.out HY4.out).mono ?_);rintro r wr34 ⟨rfl,hb⟩;replace HW:=iH (tW HW.out hb);clear hb;dsimp only;refine hK.out _ _ uAw (fun hHeld=> ?_);clear hK K;(try simp only[pq]);refine tkL 30 51 (h:=?_);refine tkL 31 52 (h:=?_);(try simp only[pq]);refine bK hO ?_ _;clear hHeld hwr1 htn1;go_wp2_with fail
   go_roundw
   case rel=>exact⟨i+1,by have:=HLT.out;omega,by go_num,HW.out⟩
   case measure=>have:=HLT.out;simp[intOf];omega
  obtain rfl:i=6:=by omega
  have i6:¬((6:Nat):Int)<6:=by decide
  have hr2:∀V,Below w3.heap.size w3 V->V.rangeAt G 10 (trC 2 (-1) ⟨#[]⟩ (.slice none 0 0) (.slice none 0 0)).toList/\V.rangeAt G 0 (trC 0 0 ⟨#[]⟩ (.slice none 0 0) (.slice none 0 0)).toList:=fun V hb=>⟨(HKC.out V hb).2 2 uAv,(HKC.out V hb).2 0 uAv⟩
  have HKT:=iH hr2;have HRW:=iH (hr2 wr HWR.out).1;clear hr2 hlt;go_upto_region 10 with(first
   |(refine lM uAz _ rfl G 10 rfl (trC 2 (-1) ⟨#[]⟩ (.slice none 0 0) (.slice none 0 0)) HRW.out rfl ?_)
   |(refine bV rfl 28 _ _ rfl (wr.heap.size+1) (trC 4 0 ⟨#[]⟩ (.slice none 0 0) (.slice (some ⟨wr.heap.size,0,none⟩) 1 1)) rfl rfl 28 (trC 0 0 ⟨#[]⟩ (.slice none 0 0) (.slice none 0 0)) (eR rfl).2.2.1 bO rfl uAy ?_;intro w5 h5 k5))
  have hn:=eR (W:=wr) (c:=#[.int .i64 2,.int .i64 (-1),.string ⟨#[]⟩,.slice none 0 0,.slice none 0 0]) (d:=(trC 0 0 ⟨#[]⟩ (.slice none 0 0) (.slice none 0 0))) (T:=28) (T':=28) rfl;obtain⟨g1,hg1⟩:∃g,g=wr.heap.size:=⟨_,rfl⟩
  obtain⟨X1,hX1⟩:∃g,g=wr.heap.size+1:=⟨_,rfl⟩
  have H5G:=iH (k5.other hn.2.1 uAu);have HB5:=iH (HWR.out.trans ((hn.1.trans (k5.below uAu)).mono HWR.out.size));rw[<-hX1]at h5 ⊢;rw[<-hg1]at h5 H5G;have H5X:=iH h5;have HKT5:Hid (∀V,Below w5.heap.size w5 V->V.rangeAt G 10 (trC 2 (-1) ⟨#[]⟩ (.slice none 0 0) (.slice none 0 0)).toList/\V.rangeAt G 0 (trC 0 0 ⟨#[]⟩ (.slice none 0 0) (.slice none 0 0)).toList):=fun V hb=>HKT.out V (tW HB5.out hb)
  clear hn h5 k5 hX1 hg1;have HW:Hid (Below w5.heap.size w5 w5.drew):=bE w5;(try simp only[pq]);refine bL (S:=(fun V=>V.rangeAt G 10 (trC 2 (-1) ⟨#[]⟩ (.slice none 0 0) (.slice none 0 0)).toList/\V.rangeAt G 0 (trC 0 0 ⟨#[]⟩ (.slice none 0 0) (.slice none 0 0)).toList)) [] hO uJu (fun hHeld=> ?_);refine tkL 0 59 (h:=?_);refine tkL 1 60 (h:=?_);(try simp only[pq]);refine tyL 2 61 (hy:=bT uAz 28 _ rfl G 10 rfl (trC 2 (-1) ⟨#[]⟩ (.slice none 0 0) (.slice none 0 0)) _ (fun w hw=>hw.1) Tryz.underlying28 rfl uCy) (h:=?_);refine tkL 3 62 (h:=?_);(try simp only[pq]);refine tkL 4 63 (h:=?_);refine tyL 5 64 (hy:=bT uAz 28 _ rfl G 0 rfl (trC 0 0 ⟨#[]⟩ (.slice none 0 0) (.slice none 0 0)) _ (fun w hw=>hw.2) Tryz.underlying28 rfl uCy) (h:=?_);(try simp only[pq]);obtain⟨wd,hwd⟩:∃wd,wd=w5.drew:=⟨_,rfl⟩
  rw[<-hwd]at HW ⊢;clear hwd;refine kN (rs:=[6,8]) hO uBu (mY.cons (o:=⟨some 65,_,_,_,_,_⟩) rfl (fun K hK=> ?_) (mY.cons (o:=⟨some 5,_,_,_,_,_⟩) rfl (fun K hK=> ?_) mY.nil))
  go_simp
  have hbq:=Below.newly' wd (.cells #[.int .i64 2,.int .i64 (-1),.string ⟨#[]⟩,.slice none 0 0,.slice none 0 0,.int .i64 0,.int .i64 0,.string ⟨#[]⟩,.slice none 0 0,.slice none 0 0] 28);have hl9:=aF wd (.cells #[.int .i64 2,.int .i64 (-1),.string ⟨#[]⟩,.slice none 0 0,.slice none 0 0,.int .i64 0,.int .i64 0,.string ⟨#[]⟩,.slice none 0 0,.slice none 0 0] 28);obtain⟨g2,hg2⟩:∃g,g=wd.heap.size:=⟨_,rfl⟩
  obtain⟨wl,hwl⟩:∃W,W=wd.alloc (.cells #[.int .i64 2,.int .i64 (-1),.string ⟨#[]⟩,.slice none 0 0,.slice none 0 0,.int .i64 0,.int .i64 0,.string ⟨#[]⟩,.slice none 0 0,.slice none 0 0] 28):=⟨_,rfl⟩
  have hle:=HW.out.size;rw[<-hg2]at hle hl9;rw[<-hwl]at hbq hl9;have Hg2:=iH hle;have HLX:=iH hl9;replace HW:=iH (tW HW.out hbq);rw[<-hwl,<-hg2];refine hK.out _ _ uJu (fun hHeld=> ?_);clear hK K hbq hl9 hwl hg2 hle;(try simp only[pq]);refine aI (i:=7) (oi:=⟨some 66,_,_,_,_,_⟩) (v:=(.agg (trC 4 0 ⟨#[]⟩ (.slice none 0 0) (.slice (some ⟨g2,0,none⟩) 2 2)))) rfl hO hO hO hO (fun _ _ _ h=>h) (Or.inl ⟨by rfl,?hg2_7⟩) uAx ?rg2_7
  case hg2_7=>(intro w hSw;(try dsimp only at hSw);first|(go_simp;done)|(go_simp;with_reducible rfl))
  (try simp only[pq]);refine tkO 8 (some 5) (h:=fun K hK=> ?_);go_simp;have hbq:=Below.newly' wl (.cells (trC 0 0 ⟨#[]⟩ (.slice none 0 0) (.slice none 0 0)) 28);have hl9:=aF wl (.cells (trC 0 0 ⟨#[]⟩ (.slice none 0 0) (.slice none 0 0)) 28);obtain⟨X2,hX2⟩:∃g,g=wl.heap.size:=⟨_,rfl⟩
  obtain⟨wz,hwz⟩:∃W,W=wl.alloc (.cells (trC 0 0 ⟨#[]⟩ (.slice none 0 0) (.slice none 0 0)) 28):=⟨_,rfl⟩
  have hle:=HW.out.size;rw[<-hX2]at hle hl9;rw[<-hwz]at hbq hl9;have HX2:=iH hle;have HZX:=iH hl9;have HLX0:=HLX;replace HLX:=iH (kW hbq HLX0.out);have HNE:Hid (g2≠X2):=fun e=>by have:=(gZ HLX0.out);omega
  replace HW:=iH (tW HW.out hbq);rw[<-hwz,<-hX2];refine hK.out _ _ uJu (fun hHeld=> ?_);clear hK K hbq hl9 hwz hX2 hle
  rotate_left
  go_simp
  have hbq:=Below.newly' wd (.cells (trC 0 0 ⟨#[]⟩ (.slice none 0 0) (.slice none 0 0)) 28);have hl9:=aF wd (.cells (trC 0 0 ⟨#[]⟩ (.slice none 0 0) (.slice none 0 0)) 28);obtain⟨X2,hX2⟩:∃g,g=wd.heap.size:=⟨_,rfl⟩
  obtain⟨wz,hwz⟩:∃W,W=wd.alloc (.cells (trC 0 0 ⟨#[]⟩ (.slice none 0 0) (.slice none 0 0)) 28):=⟨_,rfl⟩
  have hle:=HW.out.size;rw[<-hX2]at hle hl9;rw[<-hwz]at hbq hl9;have HX2:=iH hle;have HZX:=iH hl9;replace HW:=iH (tW HW.out hbq);rw[<-hwz,<-hX2];refine hK.out _ _ uJu (fun hHeld=> ?_);clear hK K hbq hl9 hwz hX2 hle;(try simp only[pq]);refine tkO 6 (some 65) (h:=fun K hK=> ?_);go_simp;have hbq:=Below.newly' wz (.cells #[.int .i64 2,.int .i64 (-1),.string ⟨#[]⟩,.slice none 0 0,.slice none 0 0,.int .i64 0,.int .i64 0,.string ⟨#[]⟩,.slice none 0 0,.slice none 0 0] 28);have hl9:=aF wz (.cells #[.int .i64 2,.int .i64 (-1),.string ⟨#[]⟩,.slice none 0 0,.slice none 0 0,.int .i64 0,.int .i64 0,.string ⟨#[]⟩,.slice none 0 0,.slice none 0 0] 28);obtain⟨g2,hg2⟩:∃g,g=wz.heap.size:=⟨_,rfl⟩
  obtain⟨wl,hwl⟩:∃W,W=wz.alloc (.cells #[.int .i64 2,.int .i64 (-1),.string ⟨#[]⟩,.slice none 0 0,.slice none 0 0,.int .i64 0,.int .i64 0,.string ⟨#[]⟩,.slice none 0 0,.slice none 0 0] 28):=⟨_,rfl⟩
  have hle:=HW.out.size;rw[<-hg2]at hle hl9;rw[<-hwl]at hbq hl9;have Hg2:=iH hle;have HLX:=iH hl9;have HZX0:=HZX;replace HZX:=iH (kW hbq HZX0.out);have HNE:Hid (g2≠X2):=fun e=>by have:=(gZ HZX0.out);omega
  replace HW:=iH (tW HW.out hbq);rw[<-hwl,<-hg2];refine hK.out _ _ uJu (fun hHeld=> ?_);clear hK K hbq hl9 hwl hg2 hle;(try simp only[pq]);refine aI (i:=7) (oi:=⟨some 66,_,_,_,_,_⟩) (v:=(.agg (trC 4 0 ⟨#[]⟩ (.slice none 0 0) (.slice (some ⟨g2,0,none⟩) 2 2)))) rfl hO hO hO hO (fun _ _ _ h=>h) (Or.inl ⟨by rfl,?hg4_7⟩) uAx ?rg4_7
  case hg4_7=>(intro w hSw;(try dsimp only at hSw);first|(go_simp;done)|(go_simp;with_reducible rfl))
  all_goals
   (try simp only[pq]);refine tkO 9 none (h:=fun K hK=> ?_);refine kH 28 _ _ rfl X2 (trC 4 0 ⟨#[]⟩ (.slice none 0 0) (.slice (some ⟨g2,0,none⟩) 2 2)) rfl rfl 28 _ (HZX.out) bO rfl uAy ?_;intro w9 h9 k9;have hb9:Below w5.heap.size w5 w9:=HW.out.trans (k9.below HX2.out);refine hK.out _ _ (by exact HKT5.out _ hb9) (fun hHeld=> ?_);clear hK K;(try simp only[pq]);refine bK hO ?_ _;have H2X:=iH h9;have H2G:=iH (k9.other HLX.out HNE.out);have H1X:=iH (kW hb9 H5X.out);have H1G:=iH (kW hb9 H5G.out);replace HW:=iH (tW HB5.out hb9);clear hHeld h9 k9 hb9;go_upto_region 11 with fail
   have HB9:=iH HW.out;have HTW:=iH (fun V (hb:Below w9.heap.size w9 V)=>HT3.out V (tW HB9.out hb));have hc9:=(HKC.out w9 HB9.out).1;have HK9:Hid (∀V,Below w9.heap.size w9 V->V.heap[w.heap.size]? =some (.cells #[.int .u64 0,.int .i64 4] 24 (0,0))/\V.heap[X1]? =some (.cells (trC 4 0 ⟨#[]⟩ (.slice none 0 0) (.slice (some ⟨g1,0,none⟩) 1 1)) 28 (0,0))/\V.heap[X2]? =some (.cells (trC 4 0 ⟨#[]⟩ (.slice none 0 0) (.slice (some ⟨g2,0,none⟩) 2 2)) 28 (0,0))):=fun V hb=>⟨kW hb hc9,kW hb H1X.out,kW hb H2X.out⟩
   have HO1:Hid (∀W,Below w9.heap.size w9 W->Calls Tryz.prog 11 #[.agg #[.int .u64 0,.int .i64 4],.agg (trC 4 0 ⟨#[]⟩ (.slice none 0 0) (.slice (some ⟨g1,0,none⟩) 1 1))] W fun e w'=>∃y,e=.returned (.agg (aX y))/\VAt (fun _=>True) w' v1T y/\Below W.heap.size W w'):=fun W hb=>by
    have h:=aD7 0 4 v1T _ W uAv (aNA (kW hb H1G.out)) aDH.1 aDH.2.1 (by rw[aDI.2.1];decide) (HTW.out W hb);rw[aDG.2]at h;exact Ae5
   have HO2:Hid (∀W,Below w9.heap.size w9 W->Calls Tryz.prog 11 #[.agg #[.int .u64 0,.int .i64 4],.agg (trC 4 0 ⟨#[]⟩ (.slice none 0 0) (.slice (some ⟨g2,0,none⟩) 2 2))] W fun e w'=>∃y,e=.returned (.agg (aX y))/\VAt (fun _=>True) w' v2T y/\Below W.heap.size W w'):=fun W hb=>by
    have h:=aD7 0 4 v2T _ W uAv (aNz (kW hb H2G.out)) aDE.1 aDE.2.1 (by rw[aDF.2.1];decide) (HTW.out W hb);rw[aJT.2]at h;exact Ae5
   have HOR1:Hid (∀(x y:Cel) (W:World),Below w9.heap.size w9 W->VAt (fun _=>True) W v1T x->VAt (fun _=>True) W v2T y->Calls Tryz.prog 14 #[.agg (aX x),.agg (aX y)] W fun e w'=>e=.returned (.int .i64 (-1))/\Below W.heap.size W w'):=fun x y W hb hx hy=>by
    have h:=yQ v1T v2T x y W hx hy aDG.1 aJT.1 (HTW.out W hb);rw[aHq.1]at h;exact h
   have HOR2:Hid (∀(x y:Cel) (W:World),Below w9.heap.size w9 W->VAt (fun _=>True) W v1T x->VAt (fun _=>True) W v1T y->Calls Tryz.prog 15 #[.agg (aX x),.agg (aX y)] W fun e w'=>e=.returned (.bool true)/\Below W.heap.size W w'):=fun x y W hb hx hy=>by
    have h:=aE2 v1T v1T x y W hx hy aDG.1 aDG.1 (HTW.out W hb);rw[aHq.2]at h;exact h
   clear hc9;replace HW:Hid (Below w9.heap.size w9 w9.drew):=bE w9;refine bL (S:=(fun V=>V.heap[w.heap.size]? =some (.cells #[.int .u64 0,.int .i64 4] 24 (0,0))/\V.heap[X1]? =some (.cells (trC 4 0 ⟨#[]⟩ (.slice none 0 0) (.slice (some ⟨g1,0,none⟩) 1 1)) 28 (0,0))/\V.heap[X2]? =some (.cells (trC 4 0 ⟨#[]⟩ (.slice none 0 0) (.slice (some ⟨g2,0,none⟩) 2 2)) 28 (0,0)))) [] hO uFy (fun hHeld=> ?_);refine tyL 0 67 (hy:=aP uAz 24 _ rfl w.heap.size rfl #[.int .u64 0,.int .i64 4] 24 (0,0) _ (fun w hw=>hw.1) Tryz.underlying24 rfl uKv) (h:=?_);refine tyL 1 68 (hy:=aP uAz 28 _ rfl X1 rfl (trC 4 0 ⟨#[]⟩ (.slice none 0 0) (.slice (some ⟨g1,0,none⟩) 1 1)) 28 (0,0) _ (fun w hw=>hw.2.1) Tryz.underlying28 rfl uCy) (h:=?_);(try simp only[pq]);refine tyL 3 70 (hy:=aP uAz 24 _ rfl w.heap.size rfl #[.int .u64 0,.int .i64 4] 24 (0,0) _ (fun w hw=>hw.1) Tryz.underlying24 rfl uKv) (h:=?_);refine tyL 4 71 (hy:=aP uAz 28 _ rfl X2 rfl (trC 4 0 ⟨#[]⟩ (.slice none 0 0) (.slice (some ⟨g2,0,none⟩) 2 2)) 28 (0,0) _ (fun w hw=>hw.2.2) Tryz.underlying28 rfl uCy) (h:=?_);(try simp only[pq]);refine tkO 2 (some 69) (h:=fun K hK=> ?_);go_simp;go_at_call 11;(with_reducible refine(HO1.out _ uBy).mono ?_);rintro r wo1 ⟨y1,rfl,hy,hb⟩;have HY1:=iH hy;replace HW:=iH (tW HW.out hb);clear hb hy;dsimp only;refine hK.out _ _ uFy (fun hHeld=> ?_);clear hK K;(try simp only[pq]);refine tkO 5 (some 72) (h:=fun K hK=> ?_);go_simp;go_at_call 11;(with_reducible refine(HO2.out _ uBy).mono ?_);rintro r wo2 ⟨y2,rfl,hy,hb⟩;replace HY1:=iH (HY1.out.later hb);have HY2:=iH hy;replace HW:=iH (tW HW.out hb);clear hb hy;dsimp only;refine hK.out _ _ uFy (fun hHeld=> ?_);clear hK K;(try simp only[pq]);refine tkO 6 (some 73) (h:=fun K hK=> ?_);go_simp
   go_at_call 14;(with_reducible refine(HOR1.out _ _ _ uBy HY1.out HY2.out).mono ?_);rintro r wr12 ⟨rfl,hb⟩;replace HW:=iH (tW HW.out hb);clear hb;dsimp only;refine hK.out _ _ uFy (fun hHeld=> ?_);clear hK K;(try simp only[pq]);refine tkL 7 74 (h:=?_);refine tkL 8 75 (h:=?_);(try simp only[pq]);refine tyL 9 76 (hy:=aP uAz 24 _ rfl w.heap.size rfl #[.int .u64 0,.int .i64 4] 24 (0,0) _ (fun w hw=>hw.1) Tryz.underlying24 rfl uKv) (h:=?_);refine tyL 10 77 (hy:=aP uAz 28 _ rfl X1 rfl (trC 4 0 ⟨#[]⟩ (.slice none 0 0) (.slice (some ⟨g1,0,none⟩) 1 1)) 28 (0,0) _ (fun w hw=>hw.2.1) Tryz.underlying28 rfl uCy) (h:=?_);(try simp only[pq]);refine tyL 12 79 (hy:=aP uAz 24 _ rfl w.heap.size rfl #[.int .u64 0,.int .i64 4] 24 (0,0) _ (fun w hw=>hw.1) Tryz.underlying24 rfl uKv) (h:=?_);refine tyL 13 80 (hy:=aP uAz 28 _ rfl X1 rfl (trC 4 0 ⟨#[]⟩ (.slice none 0 0) (.slice (some ⟨g1,0,none⟩) 1 1)) 28 (0,0) _ (fun w hw=>hw.2.1) Tryz.underlying28 rfl uCy) (h:=?_);(try simp only[pq]);refine tkO 11 (some 78) (h:=fun K hK=> ?_);go_simp;go_at_call 11;(with_reducible refine(HO1.out _ uBy).mono ?_);rintro r wo3 ⟨y3,rfl,hy,hb⟩;have HY3:=iH hy;replace HW:=iH (tW HW.out hb);clear hb hy;dsimp only;refine hK.out _ _ uFy (fun hHeld=> ?_);clear hK K;(try simp only[pq]);refine tkO 14 (some 81) (h:=fun K hK=> ?_);go_simp;go_at_call 11;(with_reducible refine(HO1.out _ uBy).mono ?_);rintro r wo4 ⟨y4,rfl,hy,hb⟩;replace HY3:=iH (HY3.out.later hb);have HY4:=iH hy;replace HW:=iH (tW HW.out hb);clear hb hy;dsimp only;refine hK.out _ _ uFy (fun hHeld=> ?_);clear hK K;(try simp only[pq]);refine tkO 15 (some 82) (h:=fun K hK=> ?_);go_simp;go_at_call 15;(with_reducible refine(HOR2.out _ _ _ uBy HY3.out HY4.out).mono ?_)
   rintro r wr34 ⟨rfl,hb⟩;replace HW:=iH (tW HW.out hb);clear hb;dsimp only;refine hK.out _ _ uFy (fun hHeld=> ?_);clear hK K;(try simp only[pq]);refine tkL 16 83 (h:=?_);refine tkL 17 0 (h:=?_);(try simp only[pq]);refine bK hO ?_ _;clear hHeld;go_wp2_with fail
   have hb:=HB3.out.trans ((tW HB9.out HW.out).mono HB3.out.size);go_ret;exact⟨rfl,hb⟩
end Go.Proofs.YtengibnpebfblaaGreatDoor
