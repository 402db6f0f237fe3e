import Derived.Test.YtengibnpebfblaaGreatDoorQ0
import Derived.Test.YtengibnpebfblaaGreatDoorQ43
set_option maxRecDepth 1000000
set_option maxHeartbeats 8000000
/-Plain facts of layer 12:each once. No program is imported.-/
namespace Go.Proofs.YtengibnpebfblaaGreatDoor
open Go.RowKit
/-! each once-/
/--One more,where it isn't the last one.-/
def lT (P:List Tr) (t:Tr):List Tr:=if P=[]\/eC (P.getLastD iE) t≠0 then P++[t]else P
/--The trees by their order,each once.-/
def aB9 (l:List Tr):List Tr:=(fT l).foldl lT []
theorem aDJ:∀(l P:List Tr),P.Pairwise LtT->l.Pairwise LeT->(∀x∈P,∀y∈l,LeT x y)->(l.foldl lT P).Pairwise LtT/\∀t,(∃x∈l.foldl lT P,eC x t=0)↔((∃x∈P,eC x t=0)\/∃x∈l,eC x t=0)
  |[],P,hP,_,_=>⟨hP,fun t=>by simp⟩
  |y::r,P,hP,hl,hle=>by
   obtain⟨l1,l2⟩:=cR.1 hl;rw[gN];have hz:∀{a b t:Tr},eC a b=0->(eC a t=0↔eC b t=0):=fun h=>by
     unfold eC at*
     rw[(gJ _ _).1 h]
   by_cases hc:P=[]\/eC (P.getLastD iE) y≠0
   ·have he:lT P y=P++[y]:=if_pos hc
    rw[he];have hlt:∀x∈P,LtT x y:=fun x hx=>by
      have hne:P≠[]:=fun e=>by subst e;cases hx
      have hn:=hc.resolve_left hne;rw[xX,List.getLast?_eq_some_getLast hne,tB]at hn;have hl:=hle _ (List.getLast_mem hne) y (aW ..);have hly:LtT (P.getLast hne) y:=by unfold LeT LtT at*;omega
      rcases lB.1 hx with⟨q,hq,rfl⟩
      by_cases hql:q=P.length-1
      ·rw[aAE hne]at hly
       subst hql;exact hly
      ·refine LtT.trans ?_ hly
       rw[aAE hne];exact eK.1 hP _ _ hq uAu uAu
    have ih:=aDJ r (P++[y]) (List.pairwise_append.2 ⟨hP,List.pairwise_singleton _ _,fun a ha b hb=>by rw[cB.1 hb];exact hlt a ha⟩) l2 (fun x hx z hz=>by
      rcases cP.1 hx with h|h
      ·exact hle x h z (aU _ hz)
      ·rw[cB.1 h];exact l1 z hz)
    refine⟨ih.1,fun t=>(ih.2 t).trans ?_⟩;constructor
    ·rintro(⟨x,hx,h⟩|⟨x,hx,h⟩)
     ·rcases cP.1 hx with hx|hx
      ·exact .inl ⟨x,hx,h⟩
      ·exact .inr ⟨x,by rw[cB.1 hx];exact aW ..,h⟩
     ·exact .inr ⟨x,aU _ hx,h⟩
    ·rintro(⟨x,hx,h⟩|⟨x,hx,h⟩)
     ·exact .inl ⟨x,nU _ hx,h⟩
     ·rcases bA.1 hx with rfl|hx
      ·exact .inl ⟨x,List.mem_append_right _ (cB.2 rfl),h⟩
      ·exact .inr ⟨x,hx,h⟩
   ·have he:lT P y=P:=if_neg hc
    rw[he];have ih:=aDJ r P hP l2 (fun x hx z hz=>hle x hx z (aU _ hz));refine⟨ih.1,fun t=>(ih.2 t).trans ?_⟩;have hne:P≠[]:=fun e=>hc (.inl e)
    have h0:eC (P.getLast hne) y=0:=by
      rcases vZ (eC (P.getLastD iE) y=0)with h|h
      ·rw[xX,List.getLast?_eq_some_getLast hne,tB]at h
       exact h
      ·exact absurd (.inr h) hc
    constructor
    ·rintro(h|⟨x,hx,h⟩)
     ·exact .inl h
     ·exact .inr ⟨x,aU _ hx,h⟩
    ·rintro(h|⟨x,hx,h⟩)
     ·exact .inl h
     ·rcases bA.1 hx with rfl|hx
      ·exact .inl ⟨_,List.getLast_mem hne,(hz h0).2 h⟩
      ·exact .inr ⟨x,hx,h⟩
theorem aJW (l:List Tr):(aB9 l).Pairwise LtT:=(aDJ _ [] List.Pairwise.nil (mT l) (fun x hx=>by cases hx)).1
theorem aLT {x t:Tr} {P:List Tr} (h:x∈lT P t):x∈P\/x=t:=by
  unfold lT at h;split at h
  ·rcases cP.1 h with h|h
   ·exact .inl h
   ·exact .inr (cB.1 h)
  ·exact .inl h
theorem aAQ {x:Tr}:∀{l P:List Tr},x∈l.foldl lT P->x∈P\/x∈l
  |[],_,h=>.inl h
  |y::r,P,h=>by
   rw[gN]at h;rcases aAQ h with h|h
   ·rcases aLT h with h|rfl
    ·exact .inl h
    ·exact .inr (aW ..)
   ·exact .inr (aU _ h)
theorem aM7 {l:List Tr} (hg:∀x∈l,jR x) (t:Tr):t∈aB9 l↔t∈l:=by
  constructor
  ·intro h
   rcases aAQ h with h|h
   ·cases h
   ·exact(jL l).mem_iff.1 h
  ·intro h
   have h1:=((aDJ _ [] List.Pairwise.nil (mT l) (fun x hx=>by cases hx)).2 t).2 (.inr ⟨t,(jL l).mem_iff.2 h,sA t⟩);obtain⟨x,hx,hxt⟩:=h1;have hx':x∈aB9 l:=hx;rcases aAQ hx with h2|h2
   ·cases h2
   ·have e:=aHP (hg x ((jL l).mem_iff.1 h2)) (hg t h) ((gJ _ _).1 hxt)
    rw[<-e];exact hx'
theorem aBj:∀{l m:List Tr},(∀t,t∈l↔t∈m)->l.Pairwise LtT->m.Pairwise LtT->l=m
  |[],[],_,_,_=>rfl
  |[],y::s,h,_,_=>absurd ((h y).2 (aW ..)) uBu
  |x::r,[],h,_,_=>absurd ((h x).1 (aW ..)) uBu
  |x::r,y::s,h,hl,hm=>by
   have hirr:∀{a:Tr},¬LtT a a:=fun {a} e=>by unfold LtT at e;rw[sA]at e;omega
   obtain⟨l1,l2⟩:=cR.1 hl;obtain⟨m1,m2⟩:=cR.1 hm;have e:x=y:=by
     rcases bA.1 ((h x).1 (aW ..))with h1|h1
     ·exact h1
     ·rcases bA.1 ((h y).2 (aW ..))with h2|h2
      ·exact h2.symm
      ·exact absurd ((m1 x h1).trans (l1 y h2)) hirr
   subst e;rw[aBj (l:=r) (m:=s) (fun t=> ?_) l2 m2];constructor
   ·intro ht
    rcases bA.1 ((h t).1 (aU _ ht))with rfl|h1
    ·exact absurd (l1 _ ht) hirr
    ·exact h1
   ·intro ht
    rcases bA.1 ((h t).2 (aU _ ht))with rfl|h1
    ·exact absurd (m1 _ ht) hirr
    ·exact h1
/--What rises and holds the same trees is what the document says of each once.-/
theorem aOs {l m:List Tr} (hg:∀x∈l,jR x) (hm:∀t,t∈m↔t∈l) (hr:m.Pairwise LtT):m=aB9 l:=
  aBj (fun t=>(hm t).trans (aM7 hg t).symm) hr (aJW l)
end Go.Proofs.YtengibnpebfblaaGreatDoor
