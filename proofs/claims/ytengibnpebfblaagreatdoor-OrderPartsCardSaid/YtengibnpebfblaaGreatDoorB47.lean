import Derived.Test.YtengibnpebfblaaGreatDoorB16
set_option maxRecDepth 1000000
set_option maxHeartbeats 8000000
namespace Go.Proofs.YtengibnpebfblaaGreatDoor
open Go.RowKit
structure GrK {α:Type} (R:(Nat->Prop)->World->Value->α->Prop) (T:TypeId) (z:Array Value) (vars:List Nat) (gots:List (Nat×α)) (Wb V:World) (m:List Nat) (val:Nat->Value):Prop where
 bel:Below Wb.heap.size Wb V
 made:∀i∈vars,i∈m->∃x,val i=.pointer (some ⟨x,0,none⟩)/\Wb.heap.size<=x/\V.heap[x]? =some (.cells z T (0,0))
 got:∀g∈gots,g.1∈m->∃S:Nat->Prop,R S V (val g.1) g.2/\∀i∈vars,i∈m->∀x,val i=.pointer (some ⟨x,0,none⟩)->¬S x
 apart:∀i∈vars,∀j∈vars,i∈m->j∈m->i≠j->val i≠val j
section
variable {α : Type} {R : (Nat → Prop) → World → Value → α → Prop} {T : TypeId} {z : Array Value} {vars : List Nat} {gots : List (Nat × α)} {Wb V V' : World} {m : List Nat} {val : Nat → Value}
theorem GrK.start (Wb:World):GrK R T z vars gots Wb Wb [] val:=⟨Below.refl _ _,fun _ _ h=>(by cases h),fun _ _ h=>(by cases h),fun _ _ _ _ h=>(by cases h)⟩
theorem GrK.call (hR:∀S A B v x,R S A v x->Below A.heap.size A B->R S B v x) (h:GrK R T z vars gots Wb V m val) (hb:Below V.heap.size V V') {i:Nat} {v:Value} (hi:∀j∈vars,j≠i) (hg:∀g∈gots,g.1=i->R (fun k=>V.heap.size<=k) V' v g.2):
  GrK R T z vars gots Wb V' (i::m) (updV val i v):=by
 refine⟨tW h.bel hb,fun j hj hm=> ?_,fun g hgg hm=> ?_,fun j hj k hk hjm hkm hne=> ?_⟩
 ·have hji:=hi j hj
  obtain⟨x,h1,h2,h3⟩:=h.made j hj ((List.mem_cons.1 hm).resolve_left hji);exact⟨x,(updV_ne val v hji).trans h1,h2,kW hb h3⟩
 ·by_cases e:g.1=i
  ·have h1:=hg g hgg e
   refine⟨_,by rw[e,updV_at];exact h1,fun j hj hjm x hx hS=> ?_⟩;have hji:=hi j hj;rw[updV_ne val v hji]at hx;obtain⟨x',h1,_,h3⟩:=h.made j hj ((List.mem_cons.1 hjm).resolve_left hji);rw[h1]at hx;simp only[Value.pointer.injEq,Option.some.injEq,Addr.mk.injEq]at hx;have:=(gZ h3)
   omega
  ·obtain⟨S,h1,h2⟩:=h.got g hgg ((List.mem_cons.1 hm).resolve_left e)
   refine⟨S,by rw[updV_ne val v e];exact hR _ _ _ _ _ h1 hb,fun j hj hjm x hx=> ?_⟩;have hji:=hi j hj;rw[updV_ne val v hji]at hx;exact h2 j hj ((List.mem_cons.1 hjm).resolve_left hji) x hx
 ·rw[updV_ne val v (hi j hj),updV_ne val v (hi k hk)]
  exact h.apart j hj k hk ((List.mem_cons.1 hjm).resolve_left (hi j hj)) ((List.mem_cons.1 hkm).resolve_left (hi k hk)) hne
theorem GrK.alloc (hR:∀S A B v x,R S A v x->Below A.heap.size A B->R S B v x) (hO:∀S A v x,R S A v x->R (fun k=>S k/\k<A.heap.size) A v x) (h:GrK R T z vars gots Wb V m val) {i:Nat} (hg:∀g∈gots,g.1≠i):
  GrK R T z vars gots Wb (V.alloc (.cells z T)) (i::m) (updV val i (.pointer (some ⟨V.heap.size,0,none⟩))):=by
 have hb:=Below.newly' V (.cells z T);have hlt:∀j∈vars,j∈m->val j≠.pointer (some ⟨V.heap.size,0,none⟩):=fun j hj hm e=>by
  obtain⟨x,h1,_,h3⟩:=h.made j hj hm;rw[h1]at e;simp only[Value.pointer.injEq,Option.some.injEq,Addr.mk.injEq]at e;have:=(gZ h3)
  omega
 refine⟨tW h.bel hb,fun j hj hm=> ?_,fun g hgg hm=> ?_,fun j hj k hk hjm hkm hne=> ?_⟩
 ·by_cases e:j=i
  ·rw[e,updV_at]
   exact⟨_,rfl,h.bel.size,heap_alloc_last _ _⟩
  ·rw[updV_ne val _ e]
   obtain⟨x,h1,h2,h3⟩:=h.made j hj ((List.mem_cons.1 hm).resolve_left e);exact⟨x,h1,h2,kW hb h3⟩
 ·obtain⟨S,h1,h2⟩:=h.got g hgg ((List.mem_cons.1 hm).resolve_left (hg g hgg))
  refine⟨fun k=>S k/\k<V.heap.size,by rw[updV_ne val _ (hg g hgg)];exact hR _ _ _ _ _ (hO _ _ _ _ h1) hb,fun j hj hjm x hx hS=> ?_⟩;by_cases e:j=i
  ·rw[e,updV_at]at hx
   simp only[Value.pointer.injEq,Option.some.injEq,Addr.mk.injEq]at hx;omega
  ·rw[updV_ne val _ e]at hx
   exact h2 j hj ((List.mem_cons.1 hjm).resolve_left e) x hx hS.1
 ·by_cases e:j=i
  ·have hk2:k≠i:=fun e'=>hne (e.trans e'.symm)
   rw[e,updV_at,updV_ne val _ hk2];exact(hlt k hk ((List.mem_cons.1 hkm).resolve_left hk2)).symm
  ·by_cases e':k=i
   ·rw[e',updV_at,updV_ne val _ e]
    exact hlt j hj ((List.mem_cons.1 hjm).resolve_left e)
   ·rw[updV_ne val _ e,updV_ne val _ e']
    exact h.apart j hj k hk ((List.mem_cons.1 hjm).resolve_left e) ((List.mem_cons.1 hkm).resolve_left e') hne
end
end Go.Proofs.YtengibnpebfblaaGreatDoor
