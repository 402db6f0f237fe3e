import Derived.Test.YtengibnpebfblaaGreatDoorB5
import Derived.Test.YtengibnpebfblaaGreatDoorB6
import Derived.Deep.RegionWith
import Derived.Lib.ItoaLen
import Derived.Lib.Tables
set_option maxRecDepth 1000000
set_option maxHeartbeats 8000000
set_option linter.unusedSimpArgs false
namespace Go.Proofs.YtengibnpebfblaaGreatDoor
open Go.RowKit
abbrev Ent:=ByteArray×Cel
def kb (k:ByteArray):List UInt8:=k.data.toList
theorem kb_inj {a b:ByteArray} (h:kb a=kb b):a=b:=by
 apply ByteArray.ext;exact Array.toList_inj.1 h
theorem kb_iff {a b:ByteArray}:kb a=kb b↔a=b:=⟨kb_inj,fun h=>by rw[h]⟩
def Rise (L:List Ent):Prop:=L.Pairwise fun a b=>kb a.1<kb b.1
theorem Rise.filter {L:List Ent} (h:Rise L) (p:Ent->Bool):Rise (L.filter p):=List.Pairwise.filter p h
theorem Rise.nil:Rise []:=List.Pairwise.nil
theorem Rise.one (e:Ent):Rise [e]:=List.pairwise_singleton _ e
def getE (L:List Ent) (k:ByteArray):Option Cel:=(L.find? fun e=>decide (e.1=k)).map (·.2)
def delE (L:List Ent) (k:ByteArray):List Ent:=L.filter fun e=>decide (e.1≠k)
def belE (L:List Ent) (k:ByteArray):List Ent:=L.filter fun e=>decide (kb e.1<kb k)
def abvE (L:List Ent) (k:ByteArray):List Ent:=L.filter fun e=>decide (kb k<kb e.1)
def insE (L:List Ent) (k:ByteArray) (x:Cel):List Ent:=belE L k++(k,x)::abvE L k
theorem lt_ne {a b:ByteArray} (h:kb a<kb b):a≠b:=fun e=>by subst e;exact lt_irrefl_l _ h
theorem lt_asym {a b:ByteArray} (h:kb a<kb b):¬kb b<kb a:=fun k=>lt_irrefl_l _ (List.lt_trans h k)
theorem tri (a b:ByteArray):kb a<kb b\/a=b\/kb b<kb a:=by
 by_cases h:a=b
 ·exact .inr (.inl h)
 ·rcases total_l (kb a) (kb b) (fun e=>h (kb_inj e))with h|h
  ·exact .inl h
  ·exact .inr (.inr h)
theorem Rise.ins {L:List Ent} (h:Rise L) (k:ByteArray) (x:Cel):Rise (insE L k x):=by
 unfold Rise insE;rw[List.pairwise_append];refine⟨h.filter _,?_,?_⟩
 ·rw[List.pairwise_cons]
  refine⟨fun e he=> ?_,h.filter _⟩;simpa using(List.mem_filter.1 he).2
 ·intro a ha b hb
  have ha':kb a.1<kb k:=by simpa using(List.mem_filter.1 ha).2
  rcases List.mem_cons.1 hb with rfl|hb
  ·exact ha'
  ·have hb':kb k<kb b.1:=by simpa using(List.mem_filter.1 hb).2
   exact List.lt_trans ha' hb'
theorem mem_ins {L:List Ent} {k:ByteArray} {x:Cel} {e:Ent}:e∈insE L k x↔e=(k,x)\/(e∈L/\e.1≠k):=by
 unfold insE belE abvE;rw[List.mem_append,List.mem_cons,List.mem_filter,List.mem_filter];constructor
 ·rintro(⟨h1,h2⟩|h|⟨h1,h2⟩)
  ·exact .inr ⟨h1,lt_ne (by simpa using h2)⟩
  ·exact .inl h
  ·exact .inr ⟨h1,(lt_ne (by simpa using h2)).symm⟩
 ·rintro(h|⟨h1,h2⟩)
  ·exact .inr (.inl h)
  ·rcases tri e.1 k with h|h|h
   ·exact .inl ⟨h1,by simpa using h⟩
   ·exact absurd h h2
   ·exact .inr (.inr ⟨h1,by simpa using h⟩)
theorem Rise.inj {L:List Ent} (h:Rise L) {a b:Ent} (ha:a∈L) (hb:b∈L) (e:a.1=b.1):a=b:=by
 induction L with
 |nil=>cases ha
 |cons c L ih=>
  have h':=List.pairwise_cons.1 h;rcases List.mem_cons.1 ha with ha|ha
  ·rcases List.mem_cons.1 hb with hb|hb
   ·rw[ha,hb]
   ·rw[ha]at e
    exact absurd e (lt_ne (h'.1 b hb))
  ·rcases List.mem_cons.1 hb with hb|hb
   ·rw[hb]at e
    exact absurd e.symm (lt_ne (h'.1 a ha))
   ·exact ih h'.2 ha hb
theorem get_mem {L:List Ent} (h:Rise L) {k:ByteArray} {x:Cel}:getE L k=some x↔(k,x)∈L:=by
 unfold getE;rw[Option.map_eq_some_iff];constructor
 ·rintro⟨e,he,rfl⟩
  have h1:=List.find?_some he;have h2:=List.mem_of_find?_eq_some he;have h1':e.1=k:=by simpa using h1
  rw[<-h1'];exact h2
 ·intro hm
  cases hf:L.find? fun e=>decide (e.1=k)with
  |none=>
   have:=List.find?_eq_none.1 hf _ hm;simp at this
  |some e=>
   have h1:=List.find?_some hf;have h1':e.1=k:=by simpa using h1
   have h2:=h.inj (List.mem_of_find?_eq_some hf) hm h1';exact⟨e,rfl,by rw[h2]⟩
theorem get_none {L:List Ent} {k:ByteArray}:getE L k=none↔∀e∈L,e.1≠k:=by
 unfold getE;rw[Option.map_eq_none_iff,List.find?_eq_none];constructor
 ·intro h e he;simpa using h e he
 ·intro h e he;simpa using h e he
theorem get_filter {L:List Ent} (p:Ent->Bool) {k:ByteArray} (hp:∀e∈L,e.1=k->p e=true):getE (L.filter p) k=getE L k:=by
 induction L with
 |nil=>rfl
 |cons e L ih=>
  have ih:=ih fun a ha=>hp a (List.mem_cons_of_mem _ ha)
  unfold getE at ih ⊢;by_cases h:e.1=k
  ·have:=hp e List.mem_cons_self h
   rw[List.filter_cons_of_pos this];simp[h]
  ·by_cases h2:p e=true
   ·rw[List.filter_cons_of_pos h2,List.find?_cons_of_neg (by simp[h]),List.find?_cons_of_neg (by simp[h])]
    exact ih
   ·rw[List.filter_cons_of_neg h2,List.find?_cons_of_neg (by simp[h])]
    exact ih
theorem bel_abv {L:List Ent} (h:Rise L) (k:ByteArray):delE L k=belE L k++abvE L k:=by
 induction L with
 |nil=>rfl
 |cons e L ih=>
  have h':=List.pairwise_cons.1 h;have ih:=ih h'.2;unfold delE belE abvE at ih ⊢;rcases tri e.1 k with hk|hk|hk
  ·rw[List.filter_cons_of_pos (by simp[lt_ne hk]),List.filter_cons_of_pos (by simp[hk]),List.filter_cons_of_neg (by simp[lt_asym hk]),ih,List.cons_append]
  ·have hb:(L.filter fun e=>decide (kb e.1<kb k))=[]:=by
    rw[List.filter_eq_nil_iff];intro a ha;have:=h'.1 a ha;rw[hk]at this;simpa using lt_asym this
   rw[List.filter_cons_of_neg (by simp[hk]),List.filter_cons_of_neg (by simp[hk,lt_irrefl_l]),List.filter_cons_of_neg (by simp[hk,lt_irrefl_l]),ih]
  ·have hb:(L.filter fun e=>decide (kb e.1<kb k))=[]:=by
    rw[List.filter_eq_nil_iff];intro a ha;have:=List.lt_trans hk (h'.1 a ha);simpa using lt_asym this
   rw[List.filter_cons_of_pos (by simp[(lt_ne hk).symm]),List.filter_cons_of_neg (by simp[lt_asym hk]),List.filter_cons_of_pos (by simp[hk]),ih,hb,List.nil_append,List.nil_append]
def atE (L:List Ent) (k:ByteArray):List Ent:=match getE L k with
 |none=>[]
 |some x=>[(k,x)]
theorem parts_E {L:List Ent} (h:Rise L) (k:ByteArray):L=belE L k++(atE L k++abvE L k):=by
 induction L with
 |nil=>rfl
 |cons e L ih=>
  have h':=List.pairwise_cons.1 h;have ih:=ih h'.2;have none_b:(∀a∈L,kb k<kb a.1)->belE L k=[]/\abvE L k=L/\getE L k=none:=fun ha=>by
   refine⟨?_,?_,?_⟩
   ·unfold belE
    rw[List.filter_eq_nil_iff];intro a h;simpa using lt_asym (ha a h)
   ·unfold abvE
    rw[List.filter_eq_self];intro a h;simpa using ha a h
   ·rw[get_none]
    intro a h;exact(lt_ne (ha a h)).symm
  rcases tri e.1 k with hk|hk|hk
  ·have e1:belE (e::L) k=e::belE L k:=by unfold belE;rw[List.filter_cons_of_pos (by simp[hk])]
   have e2:abvE (e::L) k=abvE L k:=by unfold abvE;rw[List.filter_cons_of_neg (by simp[lt_asym hk])]
   have e3:atE (e::L) k=atE L k:=by unfold atE getE;rw[List.find?_cons_of_neg (by simp[lt_ne hk])]
   rw[e1,e2,e3,List.cons_append,<-ih]
  ·obtain⟨b1,b2,b3⟩:=none_b (fun a ha=>by rw[<-hk];exact h'.1 a ha)
   have e1:belE (e::L) k=[]:=by unfold belE at b1 ⊢;rw[List.filter_cons_of_neg (by simp[hk,lt_irrefl_l]),b1]
   have e2:abvE (e::L) k=L:=by unfold abvE at b2 ⊢;rw[List.filter_cons_of_neg (by simp[hk,lt_irrefl_l]),b2]
   have e3:atE (e::L) k=[e]:=by unfold atE getE;rw[List.find?_cons_of_pos (by simp[hk])];simp[<-hk]
   rw[e1,e2,e3];rfl
  ·obtain⟨b1,b2,b3⟩:=none_b (fun a ha=>List.lt_trans hk (h'.1 a ha))
   have e1:belE (e::L) k=[]:=by unfold belE at b1 ⊢;rw[List.filter_cons_of_neg (by simp[lt_asym hk]),b1]
   have e2:abvE (e::L) k=e::L:=by unfold abvE at b2 ⊢;rw[List.filter_cons_of_pos (by simp[hk]),b2]
   have e3:atE (e::L) k=[]:=by
    unfold getE at b3;unfold atE getE;rw[List.find?_cons_of_neg (by simp[(lt_ne hk).symm]),b3]
   rw[e1,e2,e3];rfl
theorem len_ins {L:List Ent} (h:Rise L) (k:ByteArray) (x:Cel):(insE L k x).length=if(getE L k).isSome=true then L.length else L.length+1:=by
 have e:=congrArg List.length (parts_E h k);unfold insE;rw[List.length_append,List.length_append]at e;rw[List.length_append,List.length_cons];unfold atE at e;cases hg:getE L k with
 |none=>rw[hg]at e;simp at e ⊢;omega
 |some y=>rw[hg]at e;simp at e ⊢;omega
theorem cut_take {L:List Ent} (h:Rise L) (k:ByteArray):L.take (belE L k).length=belE L k:=
 (congrArg (List.take (belE L k).length) (parts_E h k)).trans List.take_left
theorem cut_drop {L:List Ent} (h:Rise L) (k:ByteArray):L.drop (belE L k).length=atE L k++abvE L k:=
 (congrArg (List.drop (belE L k).length) (parts_E h k)).trans List.drop_left
theorem at_none {L:List Ent} {k:ByteArray} (h:getE L k=none):atE L k=[]:=by unfold atE;rw[h]
theorem at_some {L:List Ent} {k:ByteArray} {x:Cel} (h:getE L k=some x):atE L k=[(k,x)]:=by unfold atE;rw[h]
theorem at_place {L:List Ent} (h:Rise L) (k:ByteArray):(∀e,L[(belE L k).length]? =some e->(e.1=k↔(getE L k).isSome=true))/\((getE L k).isSome=true->∃e,L[(belE L k).length]? =some e/\e.1=k/\getE L k=some e.2):=by
 have e0:L[(belE L k).length]? =(L.drop (belE L k).length)[0]? :=by rw[List.getElem?_drop,Nat.add_zero]
 rw[e0,cut_drop h k];cases hg:getE L k with
 |none=>
  rw[at_none hg,List.nil_append];refine⟨fun e he=> ?_,fun h=>by cases h⟩;have hm:e∈abvE L k:=List.mem_of_getElem? he;have:kb k<kb e.1:=by simpa using(List.mem_filter.1 hm).2
  simp[(lt_ne this).symm]
 |some y=>
  rw[at_some hg];refine⟨fun e he=> ?_,fun _=>⟨(k,y),rfl,rfl,rfl⟩⟩;have:(k,y)=e:=by simpa using he
  simp[<-this]
theorem fm_congr {α β:Type} {f g:α->List β}:∀{l:List α},(∀i∈l,f i=g i)->l.flatMap f=l.flatMap g
 |[],_=>rfl
 |a::l,h=>by
  rw[List.flatMap_cons,List.flatMap_cons,h a List.mem_cons_self,fm_congr (l:=l) fun i hi=>h i (List.mem_cons_of_mem _ hi)]
def chE (hs:ByteArray->Nat) (lv i:Nat) (L:List Ent):List Ent:=L.filter fun e=>decide (chunkN (hs e.1) lv=i)
section
variable {hs : ByteArray → Nat} {lv i : Nat} {L : List Ent} {k : ByteArray} {x : Cel}
theorem filt_comm {α:Type} (q r:α->Bool) (L:List α):(L.filter q).filter r=(L.filter r).filter q:=by
 rw[List.filter_filter,List.filter_filter];congr 1
 funext e
 exact Bool.and_comm _ _
theorem Rise.ch (h:Rise L) (hs:ByteArray->Nat) (lv i:Nat):Rise (chE hs lv i L):=h.filter _
theorem mem_ch {e:Ent}:e∈chE hs lv i L↔e∈L/\chunkN (hs e.1) lv=i:=by
 unfold chE;rw[List.mem_filter];simp
theorem ch_ins_same (h:chunkN (hs k) lv=i):chE hs lv i (insE L k x)=insE (chE hs lv i L) k x:=by
 unfold chE insE belE abvE;rw[List.filter_append,List.filter_cons_of_pos (by simp[h]),filt_comm _ (fun e:Ent=>decide (chunkN (hs e.1) lv=i)),filt_comm _ (fun e:Ent=>decide (chunkN (hs e.1) lv=i))]
theorem ch_del_other (h:chunkN (hs k) lv≠i):chE hs lv i (delE L k)=chE hs lv i L:=by
 unfold chE delE;rw[List.filter_filter];refine List.filter_congr fun e _=> ?_
 by_cases hk:e.1=k
 ·simp[hk,h]
 ·simp[hk]
theorem ch_ins_other (hr:Rise L) (h:chunkN (hs k) lv≠i):chE hs lv i (insE L k x)=chE hs lv i L:=by
 rw[<-ch_del_other (L:=L) h,bel_abv hr k];unfold chE insE;rw[List.filter_append,List.filter_append,List.filter_cons_of_neg (by simp[h])]
theorem ch_get (h:chunkN (hs k) lv=i):getE (chE hs lv i L) k=getE L k:=
 get_filter _ fun e _ hk=>by simp[hk,h]
theorem ch_len_le:(chE hs lv i L).length<=L.length:=List.length_filter_le _ _
theorem ch_perm (hs:ByteArray->Nat) (lv:Nat):∀L:List Ent,((List.range 32).flatMap fun i=>chE hs lv i L).Perm L
 |[]=>by
  have:((List.range 32).flatMap fun i=>chE hs lv i [])=[]:=by
   rw[List.flatMap_eq_nil_iff];intro i _;rfl
  rw[this]
 |e::L=>by
  have ih:=ch_perm hs lv L;have hj:=chunkN_lt (hs e.1) lv;generalize hje:chunkN (hs e.1) lv=j at hj;have hsp:List.range 32=List.range j++(j::(List.range (31-j)).map (j+1+ ·)):=by
   rw[show(32:Nat)=(j+1)+(31-j) by omega,List.range_add,List.range_succ];simp
  rw[hsp]at ih ⊢;rw[List.flatMap_append,List.flatMap_cons]at ih ⊢;have o:∀i,i≠j->chE hs lv i (e::L)=chE hs lv i L:=fun i hi=>by
   unfold chE;rw[List.filter_cons_of_neg (by simp[hje];exact fun h=>hi h.symm)]
  have s:chE hs lv j (e::L)=e::chE hs lv j L:=by
   unfold chE;rw[List.filter_cons_of_pos (by simp[hje])]
  have f1:((List.range j).flatMap fun i=>chE hs lv i (e::L))=(List.range j).flatMap fun i=>chE hs lv i L:=by
   refine fm_congr fun i hi=> ?_
   rw[List.mem_range]at hi;exact o i (by omega)
  have f2:(((List.range (31-j)).map (j+1+ ·)).flatMap fun i=>chE hs lv i (e::L))=((List.range (31-j)).map (j+1+ ·)).flatMap fun i=>chE hs lv i L:=by
   refine fm_congr fun i hi=> ?_
   rw[List.mem_map]at hi;obtain⟨a,_,rfl⟩:=hi;exact o _ (by omega)
  rw[f1,f2,s,List.cons_append];exact(List.perm_middle).trans (List.Perm.cons e ih)
end
theorem rise_perm {L M:List Ent} (hL:Rise L) (hM:Rise M) (h:L.Perm M):L=M:=
 h.eq_of_pairwise (fun _ _ _ _ h1 h2=>absurd h2 (lt_asym h1)) hL hM
end Go.Proofs.YtengibnpebfblaaGreatDoor
namespace Go.Proofs.YtengibnpebfblaaGreatDoor
open Go.RowKit
abbrev Rg (α:Type):=Nat->Option α
def setG {α:Type} (R:Rg α) (i:Nat) (x:α):Rg α:=fun k=>if k=i then some x else R k
def noG {α:Type}:Rg α:=fun _=>none
def cntG {α:Type} (R:Rg α):Nat->Nat
 |0=>0
 |k+1=>cntG R k+(if(R k).isSome=true then 1 else 0)
def bitsG {α:Type} (R:Rg α):Nat->Nat
 |0=>0
 |k+1=>bitsG R k+(if(R k).isSome=true then 2^k else 0)
theorem cnt_leG {α:Type} (R:Rg α):∀k,cntG R k<=k
 |0=>Nat.le_refl _
 |k+1=>by have:=cnt_leG R k;unfold cntG;split<;>omega
theorem bits_ltG {α:Type} (R:Rg α):∀k,bitsG R k<2^k
 |0=>Nat.zero_lt_one
 |k+1=>by
  have h:=bits_ltG R k;unfold bitsG;rw[Nat.pow_succ];split<;>omega
theorem bits_testG {α:Type} (R:Rg α):∀k i,(bitsG R k).testBit i=(decide (i<k)&&(R i).isSome)
 |0,i=>by simp[bitsG]
 |k+1,i=>by
  have hlt:=bits_ltG R k;unfold bitsG;by_cases hk:(R k).isSome=true
  ·have e:=Nat.two_pow_add_eq_or_of_lt hlt 1
   rw[if_pos hk,Nat.add_comm,show(2:Nat)^k=2^k*1 by omega,e,Nat.testBit_or,Nat.mul_one,Nat.testBit_two_pow,bits_testG R k i];by_cases h:k=i
   ·subst h;simp[hk]
   ·by_cases h2:i<k
    ·simp[h,h2,Nat.lt_succ_of_lt h2]
    ·simp[h,h2,show¬i<k+1 by omega]
  ·rw[if_neg hk,Nat.add_zero,bits_testG R k i]
   by_cases h:i=k
   ·subst h;simp at hk;simp[hk]
   ·by_cases h2:i<k
    ·simp[h2,Nat.lt_succ_of_lt h2]
    ·simp[h2,show¬i<k+1 by omega]
theorem bits_32G {α:Type} (R:Rg α) (i:Nat) (hi:i<32):bitN (bitsG R 32) i=(R i).isSome:=by
 rw[bit_test,bits_testG];simp[hi]
theorem lt_32G {α:Type} (R:Rg α):bitsG R 32<4294967296:=bits_ltG R 32
theorem set_bitsG {α:Type} (R:Rg α) (x:α) (i:Nat):bits .or .u32 (bitsG R 32:Nat) ((2^i:Nat):Int)=(bitsG (setG R i x) 32:Nat):=
 word_of .or _ _ _ (bits_ltG _ 32) fun k hk=>by
  simp only[BitVec.getLsbD_or,nat_bit hk,bits_testG,Nat.testBit_two_pow,setG,hk,decide_true,Bool.true_and];by_cases h:i=k
  ·subst h;simp
  ·simp[h,show¬k=i by omega]
theorem rk_cntG {α:Type} (R:Rg α):∀k,k<=32->rkN (bitsG R 32) k=cntG R k
 |0,_=>rfl
 |k+1,h=>by
  unfold rkN cntG;rw[rk_cntG R k (by omega),bits_32G R k (by omega)]
def allG {α:Type} (R:Rg α):List (Nat×α):=(List.range 32).filterMap fun i=>(R i).map fun x=>(i,x)
def lisLG {α:Type} (R:Rg α) (l:List Nat):List α:=l.filterMap R
def lisG {α:Type} (R:Rg α):List α:=lisLG R (List.range 32)
theorem lis_lenG {α:Type} (R:Rg α):∀k,(lisLG R (List.range k)).length=cntG R k
 |0=>rfl
 |k+1=>by
  unfold cntG;rw[List.range_succ];unfold lisLG;rw[List.filterMap_append,List.length_append];have:=lis_lenG R k;unfold lisLG at this;rw[this];cases h:R k<;>simp[h]
theorem cnt_succG {α:Type} (R:Rg α) (k:Nat):cntG R (k+1)=cntG R k+(if(R k).isSome=true then 1 else 0):=rfl
theorem lisG_len {α:Type} (R:Rg α):(lisG R).length=cntG R 32:=lis_lenG R 32
theorem lis_partsG {α:Type} (R:Rg α) {i:Nat} (hi:i<32):lisG R=lisLG R (List.range i)++((R i).toList++lisLG R ((List.range (31-i)).map (i+1+ ·))):=by
 unfold lisG lisLG
 conv=>lhs;rw[range_at hi]
 rw[List.filterMap_append,List.filterMap_append];cases h:R i<;>simp[h]
theorem take_partsG {α:Type} (R:Rg α) {i:Nat} (hi:i<32):(lisG R).take (cntG R i)=lisLG R (List.range i):=by
 rw[lis_partsG R hi,<-lis_lenG R i,List.take_left]
theorem drop_partsG {α:Type} (R:Rg α) {i:Nat} (hi:i<32):(lisG R).drop (cntG R (i+1))=lisLG R ((List.range (31-i)).map (i+1+ ·)):=by
 rw[lis_partsG R hi,<-List.append_assoc];have e:cntG R (i+1)=(lisLG R (List.range i)++(R i).toList).length:=by
  rw[List.length_append,lis_lenG,cnt_succG];cases h:R i<;>simp
 rw[e,List.drop_left]
theorem lis_congrG {α:Type} {R T:Rg α}:∀{l:List Nat},(∀k,k∈l->R k=T k)->lisLG R l=lisLG T l
 |[],_=>rfl
 |a::l,h=>by
  have ih:=lis_congrG (R:=R) (T:=T) (l:=l) fun k hk=>h k (List.mem_cons_of_mem _ hk)
  unfold lisLG at ih ⊢;rw[List.filterMap_cons,List.filterMap_cons,h a List.mem_cons_self,ih]
theorem lis_setG {α:Type} (R:Rg α) (x:α) {i:Nat} (hi:i<32):lisG (setG R i x)=(lisG R).take (cntG R i)++([x]++(lisG R).drop (cntG R (i+1))):=by
 rw[take_partsG R hi,drop_partsG R hi,lis_partsG (setG R i x) hi,setG];congr 1
 ·exact lis_congrG fun k hk=>by
   rw[List.mem_range]at hk;exact if_neg (by omega)
 ·congr 1
  ·simp
  ·exact lis_congrG fun k hk=>by
    rw[List.mem_map]at hk;obtain⟨j,_,rfl⟩:=hk;exact if_neg (by omega)
theorem lis_atG {α:Type} (R:Rg α) {i:Nat} (hi:i<32) {x:α} (h:R i=some x):(lisG R)[cntG R i]? =some x:=by
 rw[lis_partsG R hi,<-lis_lenG R i,h];simp
theorem all_mapG {α:Type} (R:Rg α):(allG R).map (·.2)=lisG R:=by
 unfold allG lisG lisLG;rw[List.map_filterMap];congr 1
 funext i
 cases R i<;>rfl
theorem all_lenG {α:Type} (R:Rg α):(allG R).length=cntG R 32:=by rw[<-lisG_len,<-all_mapG,List.length_map]
theorem all_atG {α:Type} (R:Rg α) {i:Nat} (hi:i<32) {x:α} (h:R i=some x):(allG R)[cntG R i]? =some (i,x):=by
 have hl:((List.range i).filterMap fun i=>(R i).map fun x=>(i,x)).length=cntG R i:=by
  rw[<-lis_lenG R i];have e:((List.range i).filterMap fun i=>(R i).map fun x=>(i,x)).map (·.2)=lisLG R (List.range i):=by
   unfold lisLG;rw[List.map_filterMap];congr 1
   funext i
   cases R i<;>rfl
  rw[<-e,List.length_map]
 unfold allG
 conv=>lhs;rw[range_at hi]
 rw[List.filterMap_append,<-hl];simp[h]
theorem all_memG {α:Type} {R:Rg α} {p:Nat×α} (h:p∈allG R):p.1<32/\R p.1=some p.2:=by
 unfold allG at h;rw[List.mem_filterMap]at h;obtain⟨i,hi,e⟩:=h;rw[List.mem_range]at hi;cases hr:R i with
 |none=>rw[hr]at e;cases e
 |some x=>rw[hr]at e;cases e;exact⟨hi,hr⟩
theorem cnt_flatG {α:Type} {R:Rg α} {p:Nat}:∀{q:Nat},p<=q->(∀j,p<=j->j<q->(R j).isSome=false)->cntG R q=cntG R p
  |0,h,_=>by obtain rfl:p=0:=by omega
             rfl
  |q+1,h,h2=>by
   by_cases e:p=q+1
   ·subst e;rfl
   ·rw[<-cnt_flatG (p:=p) (q:=q) (by omega) fun j a c=>h2 j a (by omega)]
    rw[cnt_succG,h2 q (by omega) (by omega)];simp
theorem cnt_monoG {α:Type} (R:Rg α) {p q:Nat} (h:p<=q):cntG R p<=cntG R q:=by
  induction q with
  |zero=>obtain rfl:p=0:=by omega
         exact Nat.le_refl _
  |succ q ih=>
   by_cases e:p=q+1
   ·subst e;exact Nat.le_refl _
   ·have:=ih (by omega)
    rw[cnt_succG];omega
theorem left_lowG {α:Type} (R:Rg α) {p:Nat} (hc:cntG R p<cntG R 32):∃q x,leftN (bitsG R 32) p≠0/\Lib.ctz 32 (leftN (bitsG R 32) p)=q/\p<=q/\q<32/\R q=some x/\cntG R q=cntG R p/\cntG R (q+1)=cntG R p+1/\
  leftN (bitsG R 32) p&&&(leftN (bitsG R 32) p-1)=leftN (bitsG R 32) (q+1):=by
 have hp:p<32:=by
  apply Nat.lt_of_not_le;intro h;have:=cnt_monoG R h;omega
 have h0:leftN (bitsG R 32) p≠0:=by
  intro h;have e:cntG R 32=cntG R p:=cnt_flatG (by omega) fun j h1 h2=>by
   have:=left_test (bitsG R 32) p j;rw[h,bits_testG]at this;simpa[h1,h2]using this
  omega
 have hlt:=left_lt p (bits_ltG R 32);generalize hL:leftN (bitsG R 32) p=L at h0 hlt;obtain⟨m,hm,_⟩:=Lib.ctzFrom_spec 32 L (by omega) hlt;have hz:Lib.ctz 32 L=Lib.ctzFrom 32 L:=by unfold Lib.ctz;rw[if_neg h0]
 have hq32:=(Lib.lowest_bit 32 L h0 hlt).2;rw[<-hz]at hm;generalize hq:Lib.ctz 32 L=q at hm hq32;have ht:∀i,L.testBit i=(decide (q<=i)&&(2*m+1).testBit (i-q)):=fun i=>by
  rw[hm,Nat.mul_comm,Nat.testBit_mul_two_pow]
 have hb:∀i,L.testBit i=(decide (p<=i)&&(decide (i<32)&&(R i).isSome)):=fun i=>by
  rw[<-hL,left_test,bits_testG]
 have hq1:L.testBit q=true:=by rw[ht];simp
 have hpq:p<=q/\(R q).isSome=true:=by
  rw[hb]at hq1;simp only[Bool.and_eq_true,decide_eq_true_eq]at hq1;exact⟨hq1.1,hq1.2.2⟩
 obtain⟨hpq,hs⟩:=hpq;obtain⟨x,hx⟩:=Option.isSome_iff_exists.1 hs;have hlow:∀j,p<=j->j<q->(R j).isSome=false:=fun j h1 h2=>by
  have e:=hb j;rw[ht j]at e;simpa[h1,show¬q<=j by omega,show j<32 by omega]using e.symm
 have hcq:cntG R q=cntG R p:=cnt_flatG hpq hlow;refine⟨q,x,by first|exact h0|(rw[hL];exact h0),rfl,hpq,hq32,hx,hcq,?_,?_⟩
 ·rw[cnt_succG,hcq,hs];rfl
 ·apply Nat.eq_of_testBit_eq
  intro i;rw[Nat.testBit_and,left_test,bits_testG,hb];have e1:L-1=2^q*(2*m)+(2^q-1):=by
   rw[hm,Nat.mul_add,Nat.mul_one];have:0<2^q:=Nat.two_pow_pos q;omega
  have e2:(L-1).testBit i=if i<q then true else(2*m).testBit (i-q):=by
   rw[e1,Nat.two_pow_add_eq_or_of_lt (by have:0<2^q:=Nat.two_pow_pos q;omega),Nat.testBit_or,Nat.mul_comm,Nat.testBit_mul_two_pow,Nat.testBit_two_pow_sub_one];by_cases h:i<q
   ·simp[h]
   ·simp[h,show q<=i by omega]
  rw[e2];by_cases h:i<q
  ·have:p<=i->(R i).isSome=false:=fun h1=>hlow i h1 h
   rw[if_pos h];by_cases h1:p<=i
   ·simp[this h1]
   ·simp[h1,show¬q+1<=i by omega]
  ·rw[if_neg h]
   by_cases h1:i=q
   ·subst h1;simp;omega
   ·obtain⟨d,rfl⟩:∃d,i=q+(d+1):=⟨i-q-1,by omega⟩
    have e3:(2*m).testBit (d+1)=(2*m+1).testBit (d+1):=by
     rw[Nat.testBit_succ,Nat.testBit_succ];congr 1
     omega
    have e4:=ht (q+(d+1));rw[hb]at e4;simp only[show q+(d+1)-q=d+1 by omega,e3]at e4 ⊢;rw[show decide (q<=q+(d+1))=true by simp,Bool.true_and]at e4;rw[<-e4];simp only[show p<=q+(d+1) by omega,show q+1<=q+(d+1) by omega,decide_true,Bool.true_and,Bool.and_self]
theorem pow_word {j:Nat} (hj:j<32):(2:Int)^j % 4294967296=((2^j:Nat):Int):=by
 have h:2^j<4294967296:=Nat.pow_lt_pow_right (show 1<2 by decide) hj;have e:((2:Int)^j)=((2^j:Nat):Int):=by simp
 rw[e];generalize 2^j=m at h;omega
theorem sp_bit_on (j:Nat) (hj:j<32) (w:World):Calls Tryz.prog 146 #[.int .i64 (j:Int)] w fun e w'=>e=.returned (.int .u32 ((2^j:Nat):Int))/\w'=w:=by
 have hp:=iH (pow_word hj);have h1:(j:Int)<32:=by omega
 have h2:0<=(j:Int):=by omega
 go_enter Tryz.func146,Tryz.ntmps146;go_wp2
 go_ret;exact⟨congrArg (fun x=>Ending.returned (.int .u32 x)) hp.out,rfl⟩
theorem mask_8 (x:Int) (h0:0<=x) (h1:x<4294967296):bits .and .u32 x 255=x % 256:=
 bits_mask .u32 32 (by decide) (fun n a c=>by rw[IntKind.wrap_u32];simp only[Int.reducePow]at c;omega) 8 (by decide) x h0 (by simp only[Int.reducePow];omega)
theorem pop8_rk:∀n:Fin 256,Lib.pop8 (n.val:Int)=(rkN n.val 8:Int):=by decide+kernel
theorem pop8_at (n:Nat) (h:n<256):Lib.pop8 (n:Int)=(rkN n 8:Int):=pop8_rk ⟨n,h⟩
theorem sp_ones (x:Nat) (hx:x<4294967296) (w:World):Calls Tryz.prog 185 #[.int .u32 (x:Int)] w fun e w'=>e=.returned (.int .i64 (rkN x 32:Nat))/\∃n,w'=w.drewN n:=by
 have h1:0<=(x:Int):=by omega
 have h2:(x:Int)<4294967296:=by omega
 have h3:0<=(x:Int)/16777216:=by omega
 have h4:(x:Int)/16777216<=255:=by omega
 have h5:0<=(x:Int)/65536:=by omega
 have h6:0<=(x:Int)/256:=by omega
 have hv:Hid ((Lib.pop8 ((x:Int)/16777216)+Lib.pop8 ((x:Int)/65536 % 256)+Lib.pop8 ((x:Int)/256 % 256)+Lib.pop8 ((x:Int) % 256)) % 256=((rkN x 32:Nat):Int)):=by
  show _=_;have q1:Lib.pop8 ((x:Int)/16777216)=((rkN (x/16777216) 8:Nat):Int):=pop8_at (x/16777216) (by omega);have q2:Lib.pop8 ((x:Int)/65536 % 256)=((rkN (x/65536 % 256) 8:Nat):Int):=pop8_at (x/65536 % 256) (by omega);have q3:Lib.pop8 ((x:Int)/256 % 256)=((rkN (x/256 % 256) 8:Nat):Int):=pop8_at (x/256 % 256) (by omega);have q4:Lib.pop8 ((x:Int) % 256)=((rkN (x % 256) 8:Nat):Int):=pop8_at (x % 256) (by omega);have g1:=rk_le (x/16777216) 8;have g2:=rk_le (x/65536 % 256) 8;have g3:=rk_le (x/256 % 256) 8;have g4:=rk_le (x % 256) 8;rw[q1,q2,q3,q4,rk_bytes];omega
 have m1:=mask_8 ((x:Int)/65536) (by omega) (by omega);have m2:=mask_8 ((x:Int)/256) (by omega) (by omega);have m3:=mask_8 (x:Int) (by omega) (by omega);go_enter Tryz.func185,Tryz.ntmps185;go_upto_region 1 with fail
 generalize hT:(ByteArray.mk (List.toArray _):ByteArray)=t;obtain rfl:Lib.pop8tab=t:=by rw[<-hT];decide+kernel
 clear hT;go_quiet (fail)
 go_wp2
 go_ret;exact⟨congrArg (fun v=>Ending.returned (.int .i64 v)) hv.out,nq,rfl⟩
theorem sp_count (x:Nat) (hx:x<4294967296) (w:World):Calls Tryz.prog 167 #[.int .u32 (x:Int)] w fun e w'=>e=.returned (.int .i64 (rkN x 32:Nat))/\∃n,w'=w.drewN n:=by
 go_enter Tryz.func167,Tryz.ntmps167;go_wp2_with (go_at_call 185;refine(sp_ones x hx _).mono ?_;rintro e w1 ⟨rfl,n,rfl⟩)
 go_ret;exact⟨rfl,n,rfl⟩
def Tab6 (w:World):Prop:=∀j,j<32->w.cell? ⟨1,j,none⟩=some (.int .u8 (Lib.deBruijn32tab.getD j 0:Nat))
theorem Tab6.below {w w':World} (h:Tab6 w) (hb:Below w.heap.size w w'):Tab6 w':=fun j hj=>(hb.cell (p:=⟨1,j,none⟩) (World.block_lt_of_cell? w _ (h j hj))).trans (h j hj)
theorem sp_key (x a:Nat) (hx:x<4294967296) (hx0:x≠0) (hlow:x&&&(4294967296-x)=a):
  bits BinOp.and IntKind.u32 (x:Int) (-(x:Int) % 4294967296)*125613361 % 4294967296/134217728=((a*125613361 % 4294967296/134217728:Nat):Int):=by
 have e1: -(x:Int) % 4294967296=((4294967296-x:Nat):Int):=by omega
 rw[e1,and_32 x _ hx,hlow];omega
theorem sp_zeros_core (x k idx:Nat) (w:World) (hx0:((x:Int)==0)=false)
  (key:bits BinOp.and IntKind.u32 (x:Int) (-(x:Int) % 4294967296)*125613361 % 4294967296/134217728=(idx:Int))
  (hi:idx<32) (hk:k<32) (hcell:w.cell? ⟨1,idx,none⟩=some (.int .u8 k)):
  Calls Tryz.prog 153 #[.int .u32 x] w fun e w'=>e=.returned (.int .i64 k)/\w'=w:=by
 go_enter Tryz.func153,Tryz.ntmps153;go_wp2_with (simp only[key])
 go_ret;exact⟨rfl,rfl⟩
theorem sp_zeros (x:Nat) (hx:x<4294967296) (hx0:x≠0) (w:World) (hT:Tab6 w):
  Calls Tryz.prog 153 #[.int .u32 x] w fun e w'=>e=.returned (.int .i64 (Lib.ctz 32 x:Nat))/\w'=w:=by
 obtain⟨hlow,hk⟩:=Lib.lowest_bit 32 x hx0 hx;obtain⟨hi,htab⟩:=Lib.deBruijn32_at _ hk;have hcell:=hT _ hi;rw[htab]at hcell;exact sp_zeros_core x _ _ w (by simp;omega) (sp_key x _ hx hx0 hlow) hi hk hcell
end Go.Proofs.YtengibnpebfblaaGreatDoor
