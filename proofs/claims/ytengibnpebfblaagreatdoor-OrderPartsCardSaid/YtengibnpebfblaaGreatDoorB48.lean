import Derived.Test.YtengibnpebfblaaGreatDoorB46
import Derived.Test.YtengibnpebfblaaGreatDoorB47
set_option maxRecDepth 1000000
set_option maxHeartbeats 8000000
set_option linter.unusedSimpArgs false
namespace Go.Proofs.YtengibnpebfblaaGreatDoor
open Go.RowKit
theorem four_new12 {W w:World} {a b c d:Array Value} {A B C D:TypeId} (e:(((W.alloc (.cells a A)).alloc (.cells b B)).alloc (.cells c C)).alloc (.cells d D)=w):
  Below W.heap.size W w/\w.heap[W.heap.size]? =some (.cells a A (0,0))/\w.heap[W.heap.size+1]? =some (.cells b B (0,0))/\w.heap[W.heap.size+2]? =some (.cells c C (0,0))/\w.heap[W.heap.size+3]? =some (.cells d D (0,0)):=by
 obtain⟨w3,h3⟩:∃w3,((W.alloc (.cells a A)).alloc (.cells b B)).alloc (.cells c C)=w3:=⟨_,rfl⟩
 obtain⟨k1,k2,k3,k4,k5⟩:=three_newV h3;rw[h3]at e;obtain⟨l1,l2,l3⟩:=new_below e;rw[k5]at l2;have hk:=fun(g:Nat) (o:Obj) (h:w3.heap[g]? =some o)=>(l1.block g (gZ h)).trans h
 exact⟨tW k1 l1,hk _ _ k2,hk _ _ k3,hk _ _ k4,l2⟩
def GotV12 (S:Nat->Prop) (V:World) (v:Value) (x:Tr):Prop:=∃y:Cel,v=.agg (celC y)/\VAt S V x y
theorem gotV_later12 (S:Nat->Prop) (A B:World) (v:Value) (x:Tr) (h:GotV12 S A v x) (hb:Below A.heap.size A B):GotV12 S B v x:=by
 obtain⟨y,e,h⟩:=h;exact⟨y,e,h.later hb⟩
theorem gotV_old12 (S:Nat->Prop) (A:World) (v:Value) (x:Tr) (h:GotV12 S A v x):GotV12 (fun k=>S k/\k<A.heap.size) A v x:=by
 obtain⟨y,e,h⟩:=h;exact⟨y,e,h.old⟩
def GotT12 (S:Nat->Prop) (V:World) (v:Value) (x:Tr):Prop:=TrS S V x v
theorem gotT_later12 (S:Nat->Prop) (A B:World) (v:Value) (x:Tr) (h:GotT12 S A v x) (hb:Below A.heap.size A B):GotT12 S B v x:=TrS.later h hb
theorem gotT_old12 (S:Nat->Prop) (A:World) (v:Value) (x:Tr) (h:GotT12 S A v x):GotT12 (fun k=>S k/\k<A.heap.size) A v x:=TrS.old h
theorem trL_two {w:World} {g:Nat} {a b:Tr} {ca cb:Array Value} (h5:ca.size=5) (h6:cb.size=5) (ha:TrV w a (.agg ca)) (hb:TrV w b (.agg cb)) (h:∀j u,(ca.toList++cb.toList)[j]? =some u->w.cell? ⟨g,j,none⟩=some u):TrLs w (.slice (some ⟨g,0,none⟩) 2 2) [a,b]:=by
 refine⟨_,2,g,0,rfl,(by decide:2<=maxLen),fun _=>rfl,fun j hj=> ?_⟩
 match j,hj with
 |0,_=>
  refine⟨ca,h5,ha,fun k u hu=> ?_⟩;have:=h k u (by rw[List.getElem?_append_left (List.getElem?_eq_some_iff.1 hu).1];exact hu);simpa using this
 |1,_=>
  refine⟨cb,h6,hb,fun k u hu=> ?_⟩;have:=h (5+k) u (by rw[List.getElem?_append_right (by rw[Array.length_toList,h5];omega),Array.length_toList,h5,Nat.add_sub_cancel_left];exact hu);simpa using this
 |k+2,hj=>exact absurd hj (by simp)
theorem ordT_zero {a b:Tr}:ordT a b=0↔keyT a=keyT b:=orderS_zero _ _
end Go.Proofs.YtengibnpebfblaaGreatDoor
