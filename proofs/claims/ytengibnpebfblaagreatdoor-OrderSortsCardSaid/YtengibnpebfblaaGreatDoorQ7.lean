import Derived.Test.YtengibnpebfblaaGreatDoorQ0
import Derived.Test.YtengibnpebfblaaGreatDoorQ5
import Derived.Test.YtengibnpebfblaaGreatDoorQ6
set_option maxRecDepth 1000000
set_option maxHeartbeats 8000000
set_option linter.unusedSimpArgs false
namespace Go.Proofs.YtengibnpebfblaaGreatDoor
open Go.RowKit
abbrev Ent:=ByteArray×Cel
def kb (k:ByteArray):List UInt8:=k.data.toList
theorem uV {a b:ByteArray} (h:kb a=kb b):a=b:=by
 apply nA;exact mD.1 h
theorem aNW {a b:ByteArray}:kb a=kb b↔a=b:=⟨uV,fun h=>by rw[h]⟩
def iO (L:List Ent):Prop:=L.Pairwise fun a b=>kb a.1<kb b.1
theorem iO.filter {L:List Ent} (h:iO L) (p:Ent->Bool):iO (L.filter p):=List.Pairwise.filter p h
theorem iO.nil:iO []:=List.Pairwise.nil
theorem iO.one (e:Ent):iO [e]:=List.pairwise_singleton _ e
def gL (L:List Ent) (k:ByteArray):Option Cel:=(L.find? fun e=>decide (e.1=k)).map (·.2)
def aN2 (L:List Ent) (k:ByteArray):List Ent:=L.filter fun e=>decide (e.1≠k)
def mG (L:List Ent) (k:ByteArray):List Ent:=L.filter fun e=>decide (kb e.1<kb k)
def qV (L:List Ent) (k:ByteArray):List Ent:=L.filter fun e=>decide (kb k<kb e.1)
def lD (L:List Ent) (k:ByteArray) (x:Cel):List Ent:=mG L k++(k,x)::qV L k
theorem rD {a b:ByteArray} (h:kb a<kb b):a≠b:=fun e=>by subst e;exact gB _ h
theorem rE {a b:ByteArray} (h:kb a<kb b):¬kb b<kb a:=fun k=>gB _ (iG h k)
theorem tri (a b:ByteArray):kb a<kb b\/a=b\/kb b<kb a:=by
 by_cases h:a=b
 ·exact .inr (.inl h)
 ·rcases aDN (kb a) (kb b) (fun e=>h (uV e))with h|h
  ·exact .inl h
  ·exact .inr (.inr h)
theorem iO.ins {L:List Ent} (h:iO L) (k:ByteArray) (x:Cel):iO (lD L k x):=by
 unfold iO lD;rw[List.pairwise_append];refine⟨h.filter _,?_,?_⟩
 ·rw[cR]
  refine⟨fun e he=> ?_,h.filter _⟩;simpa using(iT.1 he).2
 ·intro a ha b hb
  have ha':kb a.1<kb k:=by simpa using(iT.1 ha).2
  rcases bA.1 hb with rfl|hb
  ·exact ha'
  ·have hb':kb k<kb b.1:=by simpa using(iT.1 hb).2
   exact iG ha' hb'
theorem vO {L:List Ent} {k:ByteArray} {x:Cel} {e:Ent}:e∈lD L k x↔e=(k,x)\/(e∈L/\e.1≠k):=by
 unfold lD mG qV;rw[cP,bA,iT,iT];constructor
 ·rintro(⟨h1,h2⟩|h|⟨h1,h2⟩)
  ·exact .inr ⟨h1,rD uRz⟩
  ·exact .inl h
  ·exact .inr ⟨h1,(rD uRz).symm⟩
 ·rintro(h|⟨h1,h2⟩)
  ·exact .inr (.inl h)
  ·rcases tri e.1 k with h|h|h
   ·exact .inl ⟨h1,by simpa using h⟩
   ·exact absurd h h2
   ·exact .inr (.inr ⟨h1,by simpa using h⟩)
theorem iO.inj {L:List Ent} (h:iO L) {a b:Ent} (ha:a∈L) (hb:b∈L) (e:a.1=b.1):a=b:=by
 induction L with
 |nil=>cases ha
 |cons c L ih=>
  have h':=cR.1 h;rcases bA.1 ha with ha|ha
  ·rcases bA.1 hb with hb|hb
   ·rw[ha,hb]
   ·rw[ha]at e
    exact absurd e (rD (h'.1 b hb))
  ·rcases bA.1 hb with hb|hb
   ·rw[hb]at e
    exact absurd e.symm (rD (h'.1 a ha))
   ·exact ih h'.2 ha hb
theorem aMY {L:List Ent} (h:iO L) {k:ByteArray} {x:Cel}:gL L k=some x↔(k,x)∈L:=by
 unfold gL;rw[gD];constructor
 ·rintro⟨e,he,rfl⟩
  have h1:=List.find?_some he;have h2:=List.mem_of_find?_eq_some he;have h1':e.1=k:=by simpa using h1
  rw[<-h1'];exact h2
 ·intro hm
  cases hf:L.find? fun e=>decide (e.1=k)with
  |none=>
   have:=List.find?_eq_none.1 hf _ hm;simp at this
  |some e=>
   have h1:=List.find?_some hf;have h1':e.1=k:=by simpa using h1
   have h2:=h.inj (List.mem_of_find?_eq_some hf) hm h1';exact⟨e,rfl,by rw[h2]⟩
theorem zB {L:List Ent} {k:ByteArray}:gL L k=none↔∀e∈L,e.1≠k:=by
 unfold gL;rw[Option.map_eq_none_iff,List.find?_eq_none];constructor
 ·intro h e he;simpa using h e he
 ·intro h e he;simpa using h e he
theorem aH7 {L:List Ent} (p:Ent->Bool) {k:ByteArray} (hp:∀e∈L,e.1=k->p e=true):gL (L.filter p) k=gL L k:=by
 induction L with
 |nil=>rfl
 |cons e L ih=>
  have ih:=ih fun a ha=>hp a (aU _ ha)
  unfold gL at ih ⊢;by_cases h:e.1=k
  ·have:=hp e aW h
   rw[eI this];simp[h]
  ·by_cases h2:p e=true
   ·rw[eI h2,List.find?_cons_of_neg (by simp[h]),List.find?_cons_of_neg (by simp[h])]
    exact ih
   ·rw[dQ h2,List.find?_cons_of_neg (by simp[h])]
    exact ih
theorem aNe {L:List Ent} (h:iO L) (k:ByteArray):aN2 L k=mG L k++qV L k:=by
 induction L with
 |nil=>rfl
 |cons e L ih=>
  have h':=cR.1 h;have ih:=ih h'.2;unfold aN2 mG qV at ih ⊢;rcases tri e.1 k with hk|hk|hk
  ·rw[eI (by simp[rD hk]),eI uRu,dQ (by simp[rE hk]),ih,bC]
  ·have hb:(L.filter fun e=>decide (kb e.1<kb k))=[]:=by
    rw[mR];intro a ha;have:=h'.1 a ha;rw[hk]at this;simpa using rE this
   rw[dQ uRu,dQ (by simp[hk,gB]),dQ (by simp[hk,gB]),ih]
  ·have hb:(L.filter fun e=>decide (kb e.1<kb k))=[]:=by
    rw[mR];intro a ha;have:=iG hk (h'.1 a ha);simpa using rE this
   rw[eI (by simp[(rD hk).symm]),dQ (by simp[rE hk]),eI uRu,ih,hb,bD,bD]
def atE (L:List Ent) (k:ByteArray):List Ent:=match gL L k with
 |none=>[]
 |some x=>[(k,x)]
theorem aDZ {L:List Ent} (h:iO L) (k:ByteArray):L=mG L k++(atE L k++qV L k):=by
 induction L with
 |nil=>rfl
 |cons e L ih=>
  have h':=cR.1 h;have ih:=ih h'.2;have none_b:(∀a∈L,kb k<kb a.1)->mG L k=[]/\qV L k=L/\gL L k=none:=fun ha=>by
   refine⟨?_,?_,?_⟩
   ·unfold mG
    rw[mR];intro a h;simpa using rE (ha a h)
   ·unfold qV
    rw[aEI];intro a h;simpa using ha a h
   ·rw[zB]
    intro a h;exact(rD (ha a h)).symm
  rcases tri e.1 k with hk|hk|hk
  ·have e1:mG (e::L) k=e::mG L k:=by unfold mG;rw[eI uRu]
   have e2:qV (e::L) k=qV L k:=by unfold qV;rw[dQ (by simp[rE hk])]
   have e3:atE (e::L) k=atE L k:=by unfold atE gL;rw[List.find?_cons_of_neg (by simp[rD hk])]
   rw[e1,e2,e3,bC,<-ih]
  ·obtain⟨b1,b2,b3⟩:=none_b (fun a ha=>by rw[<-hk];exact h'.1 a ha)
   have e1:mG (e::L) k=[]:=by unfold mG at b1 ⊢;rw[dQ (by simp[hk,gB]),b1]
   have e2:qV (e::L) k=L:=by unfold qV at b2 ⊢;rw[dQ (by simp[hk,gB]),b2]
   have e3:atE (e::L) k=[e]:=by unfold atE gL;rw[List.find?_cons_of_pos uRu];simp[<-hk]
   rw[e1,e2,e3];rfl
  ·obtain⟨b1,b2,b3⟩:=none_b (fun a ha=>iG hk (h'.1 a ha))
   have e1:mG (e::L) k=[]:=by unfold mG at b1 ⊢;rw[dQ (by simp[rE hk]),b1]
   have e2:qV (e::L) k=e::L:=by unfold qV at b2 ⊢;rw[eI uRu,b2]
   have e3:atE (e::L) k=[]:=by
    unfold gL at b3;unfold atE gL;rw[List.find?_cons_of_neg (by simp[(rD hk).symm]),b3]
   rw[e1,e2,e3];rfl
theorem aAV {L:List Ent} (h:iO L) (k:ByteArray) (x:Cel):(lD L k x).length=if(gL L k).isSome=true then L.length else L.length+1:=by
 have e:=bH List.length (aDZ h k);unfold lD;rw[aD,aD]at e;rw[aD,aL];unfold atE at e;cases hg:gL L k with
 |none=>rw[hg]at e;simp at e ⊢;omega
 |some y=>rw[hg]at e;simp at e ⊢;omega
theorem aLz {L:List Ent} (h:iO L) (k:ByteArray):L.take (mG L k).length=mG L k:=
 (bH (List.take (mG L k).length) (aDZ h k)).trans mB
theorem aG3 {L:List Ent} (h:iO L) (k:ByteArray):L.drop (mG L k).length=atE L k++qV L k:=
 (bH (List.drop (mG L k).length) (aDZ h k)).trans wY
theorem aI5 {L:List Ent} {k:ByteArray} (h:gL L k=none):atE L k=[]:=by unfold atE;rw[h]
theorem aEv {L:List Ent} {k:ByteArray} {x:Cel} (h:gL L k=some x):atE L k=[(k,x)]:=by unfold atE;rw[h]
theorem aGd {L:List Ent} (h:iO L) (k:ByteArray):(∀e,L[(mG L k).length]? =some e->(e.1=k↔(gL L k).isSome=true))/\((gL L k).isSome=true->∃e,L[(mG L k).length]? =some e/\e.1=k/\gL L k=some e.2):=by
 have e0:L[(mG L k).length]? =(L.drop (mG L k).length)[0]? :=by rw[List.getElem?_drop,kA]
 rw[e0,aG3 h k];cases hg:gL L k with
 |none=>
  rw[aI5 hg,bD];refine⟨fun e he=> ?_,fun h=>by cases h⟩;have hm:e∈qV L k:=fY he;have:kb k<kb e.1:=by simpa using(iT.1 hm).2
  simp[(rD this).symm]
 |some y=>
  rw[aEv hg];refine⟨fun e he=> ?_,fun _=>⟨(k,y),rfl,rfl,rfl⟩⟩;have:(k,y)=e:=by simpa using he
  simp[<-this]
theorem aBV {α β:Type} {f g:α->List β}:∀{l:List α},(∀i∈l,f i=g i)->l.flatMap f=l.flatMap g
 |[],_=>rfl
 |a::l,h=>by
  rw[cN,cN,h a aW,aBV (l:=l) fun i hi=>h i (aU _ hi)]
def chE (hs:ByteArray->Nat) (lv i:Nat) (L:List Ent):List Ent:=L.filter fun e=>decide (iZ (hs e.1) lv=i)
section
variable {hs : ByteArray → Nat} {lv i : Nat} {L : List Ent} {k : ByteArray} {x : Cel}
theorem aDk {α:Type} (q r:α->Bool) (L:List α):(L.filter q).filter r=(L.filter r).filter q:=by
 rw[aGq,aGq];congr 1
 funext e
 exact Bool.and_comm _ _
theorem iO.ch (h:iO L) (hs:ByteArray->Nat) (lv i:Nat):iO (chE hs lv i L):=h.filter _
theorem aNS {e:Ent}:e∈chE hs lv i L↔e∈L/\iZ (hs e.1) lv=i:=by
 unfold chE;rw[iT];simp
theorem aG9 (h:iZ (hs k) lv=i):chE hs lv i (lD L k x)=lD (chE hs lv i L) k x:=by
 unfold chE lD mG qV;rw[aGr,eI (by simp[h]),aDk _ (fun e:Ent=>decide (iZ (hs e.1) lv=i)),aDk _ (fun e:Ent=>decide (iZ (hs e.1) lv=i))]
theorem aEo (h:iZ (hs k) lv≠i):chE hs lv i (aN2 L k)=chE hs lv i L:=by
 unfold chE aN2;rw[aGq];refine List.filter_congr fun e _=> ?_
 by_cases hk:e.1=k
 ·simp[hk,h]
 ·simp[hk]
theorem aEn (hr:iO L) (h:iZ (hs k) lv≠i):chE hs lv i (lD L k x)=chE hs lv i L:=by
 rw[<-aEo (L:=L) h,aNe hr k];unfold chE lD;rw[aGr,aGr,dQ (by simp[h])]
theorem aOb (h:iZ (hs k) lv=i):gL (chE hs lv i L) k=gL L k:=
 aH7 _ fun e _ hk=>by simp[hk,h]
theorem aAb:(chE hs lv i L).length<=L.length:=List.length_filter_le _ _
theorem aI1 (hs:ByteArray->Nat) (lv:Nat):∀L:List Ent,((List.range 32).flatMap fun i=>chE hs lv i L).Perm L
 |[]=>by
  have:((List.range 32).flatMap fun i=>chE hs lv i [])=[]:=by
   rw[List.flatMap_eq_nil_iff];intro i _;rfl
  rw[this]
 |e::L=>by
  have ih:=aI1 hs lv L;have hj:=sM (hs e.1) lv;generalize hje:iZ (hs e.1) lv=j at hj;have hsp:List.range 32=List.range j++(j::(List.range (31-j)).map (j+1+ ·)):=by
   rw[show(32:Nat)=(j+1)+(31-j) by omega,List.range_add,aCm];simp
  rw[hsp]at ih ⊢;rw[gF,cN]at ih ⊢;have o:∀i,i≠j->chE hs lv i (e::L)=chE hs lv i L:=fun i hi=>by
   unfold chE;rw[dQ (by simp[hje];exact fun h=>hi h.symm)]
  have s:chE hs lv j (e::L)=e::chE hs lv j L:=by
   unfold chE;rw[eI (by simp[hje])]
  have f1:((List.range j).flatMap fun i=>chE hs lv i (e::L))=(List.range j).flatMap fun i=>chE hs lv i L:=by
   refine aBV fun i hi=> ?_
   rw[fL]at hi;exact o i uAu
  have f2:(((List.range (31-j)).map (j+1+ ·)).flatMap fun i=>chE hs lv i (e::L))=((List.range (31-j)).map (j+1+ ·)).flatMap fun i=>chE hs lv i L:=by
   refine aBV fun i hi=> ?_
   rw[cH]at hi;obtain⟨a,_,rfl⟩:=hi;exact o _ uAu
  rw[f1,f2,s,bC];exact(mC).trans (List.Perm.cons e ih)
end
theorem aCV {L M:List Ent} (hL:iO L) (hM:iO M) (h:L.Perm M):L=M:=
 h.eq_of_pairwise (fun _ _ _ _ h1 h2=>absurd h2 (rE h1)) hL hM
end Go.Proofs.YtengibnpebfblaaGreatDoor
namespace Go.Proofs.YtengibnpebfblaaGreatDoor
open Go.RowKit
abbrev Rg (α:Type):=Nat->Option α
def aF5 {α:Type} (R:Rg α) (i:Nat) (x:α):Rg α:=fun k=>if k=i then some x else R k
def noG {α:Type}:Rg α:=fun _=>none
def fQ {α:Type} (R:Rg α):Nat->Nat
 |0=>0
 |k+1=>fQ R k+(if(R k).isSome=true then 1 else 0)
def eS {α:Type} (R:Rg α):Nat->Nat
 |0=>0
 |k+1=>eS R k+(if(R k).isSome=true then 2^k else 0)
theorem zH {α:Type} (R:Rg α):∀k,fQ R k<=k
 |0=>aE _
 |k+1=>by have:=zH R k;unfold fQ;split<;>omega
theorem sS {α:Type} (R:Rg α):∀k,eS R k<2^k
 |0=>Nat.zero_lt_one
 |k+1=>by
  have h:=sS R k;unfold eS;rw[aB1];split<;>omega
theorem lP {α:Type} (R:Rg α):∀k i,(eS R k).testBit i=(decide (i<k)&&(R i).isSome)
 |0,i=>by simp[eS]
 |k+1,i=>by
  have hlt:=sS R k;unfold eS;by_cases hk:(R k).isSome=true
  ·have e:=vX hlt 1
   rw[if_pos hk,aB2,show(2:Nat)^k=2^k*1 by omega,e,Nat.testBit_or,nT,aEF,lP R k i];by_cases h:k=i
   ·subst h;simp[hk]
   ·by_cases h2:i<k
    ·simp[h,h2,Nat.lt_succ_of_lt h2]
    ·simp[h,h2,show¬i<k+1 by omega]
  ·rw[if_neg hk,kA,lP R k i]
   by_cases h:i=k
   ·subst h;simp at hk;simp[hk]
   ·by_cases h2:i<k
    ·simp[h2,Nat.lt_succ_of_lt h2]
    ·simp[h2,show¬i<k+1 by omega]
theorem aLM {α:Type} (R:Rg α) (i:Nat) (hi:i<32):aNd (eS R 32) i=(R i).isSome:=by
 rw[sU,lP];simp[hi]
theorem aL1 {α:Type} (R:Rg α):eS R 32<4294967296:=sS R 32
theorem aIH {α:Type} (R:Rg α) (x:α) (i:Nat):bits .or .u32 (eS R 32:Nat) ((2^i:Nat):Int)=(eS (aF5 R i x) 32:Nat):=
 aAO .or _ _ _ (sS _ 32) fun k hk=>by
  simp only[BitVec.getLsbD_or,aE5 hk,lP,aEF,aF5,hk,decide_true,lF];by_cases h:i=k
  ·subst h;simp
  ·simp[h,show¬k=i by omega]
theorem yL {α:Type} (R:Rg α):∀k,k<=32->rkN (eS R 32) k=fQ R k
 |0,_=>rfl
 |k+1,h=>by
  unfold rkN fQ;rw[yL R k uAu,aLM R k uAu]
def iR {α:Type} (R:Rg α):List (Nat×α):=(List.range 32).filterMap fun i=>(R i).map fun x=>(i,x)
def pI {α:Type} (R:Rg α) (l:List Nat):List α:=l.filterMap R
def nG {α:Type} (R:Rg α):List α:=pI R (List.range 32)
theorem sC {α:Type} (R:Rg α):∀k,(pI R (List.range k)).length=fQ R k
 |0=>rfl
 |k+1=>by
  unfold fQ;rw[aCm];unfold pI;rw[kQ,aD];have:=sC R k;unfold pI at this;rw[this];cases h:R k<;>simp[h]
theorem vW {α:Type} (R:Rg α) (k:Nat):fQ R (k+1)=fQ R k+(if(R k).isSome=true then 1 else 0):=rfl
theorem nF {α:Type} (R:Rg α):(nG R).length=fQ R 32:=sC R 32
theorem tM {α:Type} (R:Rg α) {i:Nat} (hi:i<32):nG R=pI R (List.range i)++((R i).toList++pI R ((List.range (31-i)).map (i+1+ ·))):=by
 unfold nG pI
 conv=>lhs;rw[aBo hi]
 rw[kQ,kQ];cases h:R i<;>simp[h]
theorem aEZ {α:Type} (R:Rg α) {i:Nat} (hi:i<32):(nG R).take (fQ R i)=pI R (List.range i):=by
 rw[tM R hi,<-sC R i,mB]
theorem aFZ {α:Type} (R:Rg α) {i:Nat} (hi:i<32):(nG R).drop (fQ R (i+1))=pI R ((List.range (31-i)).map (i+1+ ·)):=by
 rw[tM R hi,<-bN];have e:fQ R (i+1)=(pI R (List.range i)++(R i).toList).length:=by
  rw[aD,sC,vW];cases h:R i<;>simp
 rw[e,wY]
theorem xP {α:Type} {R T:Rg α}:∀{l:List Nat},(∀k,k∈l->R k=T k)->pI R l=pI T l
 |[],_=>rfl
 |a::l,h=>by
  have ih:=xP (R:=R) (T:=T) (l:=l) fun k hk=>h k (aU _ hk)
  unfold pI at ih ⊢;rw[lV,lV,h a aW,ih]
theorem aL2 {α:Type} (R:Rg α) (x:α) {i:Nat} (hi:i<32):nG (aF5 R i x)=(nG R).take (fQ R i)++([x]++(nG R).drop (fQ R (i+1))):=by
 rw[aEZ R hi,aFZ R hi,tM (aF5 R i x) hi,aF5];congr 1
 ·exact xP fun k hk=>by
   rw[fL]at hk;exact if_neg uAu
 ·congr 1
  ·simp
  ·exact xP fun k hk=>by
    rw[cH]at hk;obtain⟨j,_,rfl⟩:=hk;exact if_neg uAu
theorem aHK {α:Type} (R:Rg α) {i:Nat} (hi:i<32) {x:α} (h:R i=some x):(nG R)[fQ R i]? =some x:=by
 rw[tM R hi,<-sC R i,h];simp
theorem aLS {α:Type} (R:Rg α):(iR R).map (·.2)=nG R:=by
 unfold iR nG pI;rw[aGp];congr 1
 funext i
 cases R i<;>rfl
theorem qP {α:Type} (R:Rg α):(iR R).length=fQ R 32:=by rw[<-nF,<-aLS,aH]
theorem aI6 {α:Type} (R:Rg α) {i:Nat} (hi:i<32) {x:α} (h:R i=some x):(iR R)[fQ R i]? =some (i,x):=by
 have hl:((List.range i).filterMap fun i=>(R i).map fun x=>(i,x)).length=fQ R i:=by
  rw[<-sC R i];have e:((List.range i).filterMap fun i=>(R i).map fun x=>(i,x)).map (·.2)=pI R (List.range i):=by
   unfold pI;rw[aGp];congr 1
   funext i
   cases R i<;>rfl
  rw[<-e,aH]
 unfold iR
 conv=>lhs;rw[aBo hi]
 rw[kQ,<-hl];simp[h]
theorem aGf {α:Type} {R:Rg α} {p:Nat×α} (h:p∈iR R):p.1<32/\R p.1=some p.2:=by
 unfold iR at h;rw[List.mem_filterMap]at h;obtain⟨i,hi,e⟩:=h;rw[fL]at hi;cases hr:R i with
 |none=>rw[hr]at e;cases e
 |some x=>rw[hr]at e;cases e;exact⟨hi,hr⟩
theorem aAa {α:Type} {R:Rg α} {p:Nat}:∀{q:Nat},p<=q->(∀j,p<=j->j<q->(R j).isSome=false)->fQ R q=fQ R p
  |0,h,_=>by obtain rfl:p=0:=uAu;rfl
  |q+1,h,h2=>by
   by_cases e:p=q+1
   ·subst e;rfl
   ·rw[<-aAa (p:=p) (q:=q) uAu fun j a c=>h2 j a uAu]
    rw[vW,h2 q uAu uAu];simp
theorem aA9 {α:Type} (R:Rg α) {p q:Nat} (h:p<=q):fQ R p<=fQ R q:=by
  induction q with
  |zero=>obtain rfl:p=0:=by omega
         exact aE _
  |succ q ih=>
   by_cases e:p=q+1
   ·subst e;exact aE _
   ·have:=ih uAu
    rw[vW];omega
theorem aJ6 {α:Type} (R:Rg α) {p:Nat} (hc:fQ R p<fQ R 32):∃q x,nR (eS R 32) p≠0/\Lib.ctz 32 (nR (eS R 32) p)=q/\p<=q/\q<32/\R q=some x/\fQ R q=fQ R p/\fQ R (q+1)=fQ R p+1/\
  nR (eS R 32) p&&&(nR (eS R 32) p-1)=nR (eS R 32) (q+1):=by
 have hp:p<32:=by
  apply Nat.lt_of_not_le;intro h;have:=aA9 R h;omega
 have h0:nR (eS R 32) p≠0:=by
  intro h;have e:fQ R 32=fQ R p:=aAa uAu fun j h1 h2=>by
   have:=aA2 (eS R 32) p j;rw[h,lP]at this;simpa[h1,h2]using this
  omega
 have hlt:=aHL p (sS R 32);generalize hL:nR (eS R 32) p=L at h0 hlt;obtain⟨m,hm,_⟩:=Lib.ctzFrom_spec 32 L uAu hlt;have hz:Lib.ctz 32 L=Lib.ctzFrom 32 L:=by unfold Lib.ctz;rw[if_neg h0]
 have hq32:=(Lib.lowest_bit 32 L h0 hlt).2;rw[<-hz]at hm;generalize hq:Lib.ctz 32 L=q at hm hq32;have ht:∀i,L.testBit i=(decide (q<=i)&&(2*m+1).testBit (i-q)):=fun i=>by
  rw[hm,Nat.mul_comm,aAC]
 have hb:∀i,L.testBit i=(decide (p<=i)&&(decide (i<32)&&(R i).isSome)):=fun i=>by
  rw[<-hL,aA2,lP]
 have hq1:L.testBit q=true:=by rw[ht];simp
 have hpq:p<=q/\(R q).isSome=true:=by
  rw[hb]at hq1;simp only[fB,iJ]at hq1;exact⟨hq1.1,hq1.2.2⟩
 obtain⟨hpq,hs⟩:=hpq;obtain⟨x,hx⟩:=pJ.1 hs;have hlow:∀j,p<=j->j<q->(R j).isSome=false:=fun j h1 h2=>by
  have e:=hb j;rw[ht j]at e;simpa[h1,show¬q<=j by omega,show j<32 by omega]using e.symm
 have hcq:fQ R q=fQ R p:=aAa hpq hlow;refine⟨q,x,by first|exact h0|(rw[hL];exact h0),rfl,hpq,hq32,hx,hcq,?_,?_⟩
 ·rw[vW,hcq,hs];rfl
 ·apply Nat.eq_of_testBit_eq
  intro i;rw[aCl,aA2,lP,hb];have e1:L-1=2^q*(2*m)+(2^q-1):=by
   rw[hm,Nat.mul_add,nT];have:0<2^q:=mW q;omega
  have e2:(L-1).testBit i=if i<q then true else(2*m).testBit (i-q):=by
   rw[e1,vX (by have:0<2^q:=mW q;omega),Nat.testBit_or,Nat.mul_comm,aAC,vY];by_cases h:i<q
   ·simp[h]
   ·simp[h,show q<=i by omega]
  rw[e2];by_cases h:i<q
  ·have:p<=i->(R i).isSome=false:=fun h1=>hlow i h1 h
   rw[if_pos h];by_cases h1:p<=i
   ·simp[this h1]
   ·simp[h1,show¬q+1<=i by omega]
  ·rw[if_neg h]
   by_cases h1:i=q
   ·subst h1;simp;omega
   ·obtain⟨d,rfl⟩:∃d,i=q+(d+1):=⟨i-q-1,by omega⟩
    have e3:(2*m).testBit (d+1)=(2*m+1).testBit (d+1):=by
     rw[Nat.testBit_succ,Nat.testBit_succ];congr 1
     omega
    have e4:=ht (q+(d+1));rw[hb]at e4;simp only[show q+(d+1)-q=d+1 by omega,e3]at e4 ⊢;rw[show decide (q<=q+(d+1))=true by simp,lF]at e4;rw[<-e4];simp only[show p<=q+(d+1) by omega,show q+1<=q+(d+1) by omega,decide_true,lF,Bool.and_self]
theorem aKD {j:Nat} (hj:j<32):(2:Int)^j % 4294967296=((2^j:Nat):Int):=by
 have h:2^j<4294967296:=uC (show 1<2 by decide) hj;have e:((2:Int)^j)=((2^j:Nat):Int):=by simp
 rw[e];generalize 2^j=m at h;omega
theorem zW (j:Nat) (hj:j<32) (w:World):Calls Tryz.prog 146 #[.int .i64 (j:Int)] w fun e w'=>e=.returned (.int .u32 ((2^j:Nat):Int))/\w'=w:=by
 have hp:=iH (aKD hj);have h1:(j:Int)<32:=by omega
 have h2:0<=(j:Int):=by omega
 go_enter Tryz.func146,Tryz.ntmps146;go_wp2
 go_ret;exact⟨bH (fun x=>Ending.returned (.int .u32 x)) hp.out,rfl⟩
theorem aGY (x:Int) (h0:0<=x) (h1:x<4294967296):bits .and .u32 x 255=x % 256:=
 bits_mask .u32 32 uAv (fun n a c=>by rw[aJG];simp only[Int.reducePow]at c;omega) 8 uAv x h0 (by simp only[Int.reducePow];omega)
theorem aMB:∀n:Fin 256,Lib.pop8 (n.val:Int)=(rkN n.val 8:Int):=by decide+kernel
theorem aAT (n:Nat) (h:n<256):Lib.pop8 (n:Int)=(rkN n 8:Int):=aMB ⟨n,h⟩
theorem aMq (x:Nat) (hx:x<4294967296) (w:World):Calls Tryz.prog 185 #[.int .u32 (x:Int)] w fun e w'=>e=.returned (.int .i64 (rkN x 32:Nat))/\∃n,w'=w.drewN n:=by
 have h1:0<=(x:Int):=by omega
 have h2:(x:Int)<4294967296:=by omega
 have h3:0<=(x:Int)/16777216:=by omega
 have h4:(x:Int)/16777216<=255:=by omega
 have h5:0<=(x:Int)/65536:=by omega
 have h6:0<=(x:Int)/256:=by omega
 have hv:Hid ((Lib.pop8 ((x:Int)/16777216)+Lib.pop8 ((x:Int)/65536 % 256)+Lib.pop8 ((x:Int)/256 % 256)+Lib.pop8 ((x:Int) % 256)) % 256=((rkN x 32:Nat):Int)):=by
  show _=_;have q1:Lib.pop8 ((x:Int)/16777216)=((rkN (x/16777216) 8:Nat):Int):=aAT (x/16777216) uAu;have q2:Lib.pop8 ((x:Int)/65536 % 256)=((rkN (x/65536 % 256) 8:Nat):Int):=aAT (x/65536 % 256) uAu;have q3:Lib.pop8 ((x:Int)/256 % 256)=((rkN (x/256 % 256) 8:Nat):Int):=aAT (x/256 % 256) uAu;have q4:Lib.pop8 ((x:Int) % 256)=((rkN (x % 256) 8:Nat):Int):=aAT (x % 256) uAu;have g1:=aFc (x/16777216) 8;have g2:=aFc (x/65536 % 256) 8;have g3:=aFc (x/256 % 256) 8;have g4:=aFc (x % 256) 8;rw[q1,q2,q3,q4,aKq];omega
 have m1:=aGY ((x:Int)/65536) uAu uAu;have m2:=aGY ((x:Int)/256) uAu uAu;have m3:=aGY (x:Int) uAu uAu;go_enter Tryz.func185,Tryz.ntmps185;go_upto_region 1 with fail
 generalize hT:(ByteArray.mk (List.toArray _):ByteArray)=t;obtain rfl:Lib.pop8tab=t:=by rw[<-hT];decide+kernel
 clear hT;go_quiet (fail)
 go_wp2
 go_ret;exact⟨bH (fun v=>Ending.returned (.int .i64 v)) hv.out,nq,rfl⟩
theorem aF4 (x:Nat) (hx:x<4294967296) (w:World):Calls Tryz.prog 167 #[.int .u32 (x:Int)] w fun e w'=>e=.returned (.int .i64 (rkN x 32:Nat))/\∃n,w'=w.drewN n:=by
 go_enter Tryz.func167,Tryz.ntmps167;go_wp2_with (go_at_call 185;refine(aMq x hx _).mono ?_;rintro e w1 ⟨rfl,n,rfl⟩)
 go_ret;exact⟨rfl,n,rfl⟩
def fW (w:World):Prop:=∀j,j<32->w.cell? ⟨1,j,none⟩=some (.int .u8 (Lib.deBruijn32tab.getD j 0:Nat))
theorem fW.below {w w':World} (h:fW w) (hb:Below w.heap.size w w'):fW w':=fun j hj=>(hb.cell (p:=⟨1,j,none⟩) (aM w _ (h j hj))).trans (h j hj)
theorem aNE (x a:Nat) (hx:x<4294967296) (hx0:x≠0) (hlow:x&&&(4294967296-x)=a):
  bits BinOp.and IntKind.u32 (x:Int) (-(x:Int) % 4294967296)*125613361 % 4294967296/134217728=((a*125613361 % 4294967296/134217728:Nat):Int):=by
 have e1: -(x:Int) % 4294967296=((4294967296-x:Nat):Int):=by omega
 rw[e1,aEx x _ hx,hlow];omega
theorem aCy (x k idx:Nat) (w:World) (hx0:((x:Int)==0)=false)
  (key:bits BinOp.and IntKind.u32 (x:Int) (-(x:Int) % 4294967296)*125613361 % 4294967296/134217728=(idx:Int))
  (hi:idx<32) (hk:k<32) (hcell:w.cell? ⟨1,idx,none⟩=some (.int .u8 k)):
  Calls Tryz.prog 153 #[.int .u32 x] w fun e w'=>e=.returned (.int .i64 k)/\w'=w:=by
 go_enter Tryz.func153,Tryz.ntmps153;go_wp2_with (simp only[key])
 go_ret;exact⟨rfl,rfl⟩
theorem aKc (x:Nat) (hx:x<4294967296) (hx0:x≠0) (w:World) (hT:fW w):
  Calls Tryz.prog 153 #[.int .u32 x] w fun e w'=>e=.returned (.int .i64 (Lib.ctz 32 x:Nat))/\w'=w:=by
 obtain⟨hlow,hk⟩:=Lib.lowest_bit 32 x hx0 hx;obtain⟨hi,htab⟩:=Lib.deBruijn32_at _ hk;have hcell:=hT _ hi;rw[htab]at hcell;exact aCy x _ _ w uDv (aNE x _ hx hx0 hlow) hi hk hcell
end Go.Proofs.YtengibnpebfblaaGreatDoor
