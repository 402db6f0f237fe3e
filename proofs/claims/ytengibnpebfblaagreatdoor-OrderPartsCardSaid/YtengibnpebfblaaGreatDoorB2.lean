import Derived.Test.YtengibnpebfblaaGreatDoorB1
import Derived.Below
import Derived.Deep.Cut
import Derived.Deep.Draws
import Derived.Deep.OwnRows
import Derived.Deep.WholeRow
import Derived.Laws.CopyOwn
import Derived.Laws.CopyRow
import Derived.Laws.OwnMore
import Derived.Laws.Tables
import Derived.Lib.FrozenHead2
import Derived.Lib.OthersKept
import Derived.OrdersIn
import Derived.OwnWalkIn
import Derived.RangeFuncBox
import Derived.RangeFuncCalls
import Derived.RangeFuncLeaves
import Derived.RangeFuncNested
set_option maxRecDepth 1000000
set_option maxHeartbeats 8000000
set_option linter.unusedSimpArgs false
namespace Go.Proofs.YtengibnpebfblaaGreatDoor
open Go.RowKit
theorem pq:(∀(a:Act) (v:Value),a.put none v=a)/\(∀(a:Act) (i:Nat) (v:Value),a.put (some i) v={a with tmps:=a.tmps.setIfInBounds i v})/\(∀(l:List Value) (i:Nat) (a:Value),l.toArray.setIfInBounds i a=(l.set i a).toArray)/\(∀(a b:Value) (l:List Value),(a::l).set 0 b=b::l)/\(∀(a b:Value) (l:List Value) (n:Nat),(a::l).set (n+1) b=a::l.set n b):=
  ⟨fun _ _=>rfl,fun _ _ _=>rfl,fun _ _ _=>List.setIfInBounds_toArray ..,fun _ _ _=>List.set_cons_zero,fun _ _ _ _=>List.set_cons_succ⟩
theorem tW {a b c:World} (h:Below a.heap.size a b) (k:Below b.heap.size b c):Below a.heap.size a c:=h.trans (k.mono h.size)
theorem iH {p:Prop} (h:p):Hid p:=h
theorem gZ {α:Type} {l:Array α} {i:Nat} {a:α} (h:l[i]? =some a):i<l.size:=(Array.getElem?_eq_some_iff.1 h).1
theorem kW {w w':World} {g:Nat} {o:Obj} (hb:Below w.heap.size w w') (h:w.heap[g]? =some o):w'.heap[g]? =some o:=(hb.block _ (Array.getElem?_eq_some_iff.1 h).1).trans h
theorem Below.drewMany {B:Nat} {w w1:World} (h:Below B w w1) (n:Nat):Below B w (w1.drewN n):=⟨h.os,h.tape,h.output,h.size,h.block⟩
theorem Below.newly' (w:World) (o:Obj):Below w.heap.size w (w.alloc o):=(Below.refl _ _).alloc (Nat.le_refl _) o
theorem Below.more {w w1:World} (h:Below w.heap.size w w1) (o:Obj):Below w.heap.size w (w1.alloc o):=h.alloc h.size o
theorem drawn_below (w:World):Below w.heap.size w w.drew:=Below.drewMany (Below.refl _ w) 1
structure Only (X:Nat) (w w':World):Prop where
 by_:w.grownBy w' (some X)
 size:w'.heap.size=w.heap.size
theorem Only.refl (X:Nat) (w:World):Only X w w:=⟨⟨rfl,rfl,rfl,Nat.le_refl _,fun _ _ _=>rfl⟩,rfl⟩
theorem Only.below {X B:Nat} {w w':World} (h:Only X w w') (hB:B<=X):Below B w w':=
 ⟨h.by_.os,h.by_.tape,h.by_.output,h.by_.size,fun k hk=>by
  by_cases hlt:k<w.heap.size
  ·exact h.by_.block k hlt (by simp;omega)
  ·have hz:=h.size
   rw[Array.getElem?_eq_none (by omega),Array.getElem?_eq_none (by omega)]⟩
theorem Only.trans {X:Nat} {a b c:World} (h:Only X a b) (k:Only X b c):Only X a c:=
 ⟨⟨k.by_.os.trans h.by_.os,k.by_.tape.trans h.by_.tape,k.by_.output.trans h.by_.output,Nat.le_trans h.by_.size k.by_.size,fun i hi hne=>(k.by_.block i (Nat.lt_of_lt_of_le hi h.by_.size) hne).trans (h.by_.block i hi hne)⟩,k.size.trans h.size⟩
theorem Only.other {X Y:Nat} {w w':World} {o:Obj} (h:Only X w w') (hy:w.heap[Y]? =some o) (hne:Y≠X):w'.heap[Y]? =some o:=
 (h.by_.block Y (gZ hy) (by simpa using fun e=>hne e)).trans hy
theorem only_setRow (w:World) (X:Nat) (c:Array Value):Only X w (w.setRow X c):=by
 refine⟨⟨rfl,rfl,rfl,by simp[World.setRow],fun j hj hne=> ?_⟩,by simp[World.setRow]⟩;simp only[World.setRow];rw[Array.getElem?_modify];split
 ·subst_vars;simp at hne
 ·rfl
theorem cell_in {W:World} {X:Nat} {c:Array Value} {T:TypeId} {fr:Nat×Nat} (h:W.heap[X]? =some (.cells c T fr)) {j:Nat} {v:Value} (hv:c[j]? =some v):W.cell? ⟨X,j,none⟩=some v:=by
 rw[cell_of_row W X j c T fr h,hv]
theorem st_agg {ops:Array Oper} {rest:List Oper} {o:Oper} {a:Act} {w:World} {Q:Exit->Act->World->Prop} (hgd:o.guard=none) (ty:TypeId) (x y:Operand) (ho:o.op=.store ty x y)
  (X:Nat) (c':Array Value) (hx:a.eval x=.pointer (some ⟨X,0,none⟩)) (hy:a.eval y=.agg c') (T:TypeId) (c:Array Value) (hB:w.heap[X]? =some (.cells c T (0,0)))
  (hi:(Tryz.prog.info? ty).map (·.size)=some c'.size) (hs:c.size=c'.size) (h1:c'.all (·.oneCell')=true)
  (h:∀w',w'.heap[X]? =some (.cells c' T (0,0))->Only X w w'->wpList Tryz.prog ops Q rest (a.put o.dst undef) w'):wpList Tryz.prog ops Q (o::rest) a w:=
 wpList_plain hgd fun _ hK=>wp_store_row ty x y ho X _ hx hy T _ hB hi hs h1 (hK _ _ (h _ (setRow_heap w X _ _ _ _ hB) (only_setRow _ _ _)))
theorem st_agg_wp {o:Oper} {a:Act} {w:World} {K:Act->World->Prop} {Q:Exit->Act->World->Prop} (ty:TypeId) (x y:Operand) (ho:o.op=.store ty x y)
  (X:Nat) (c':Array Value) (hx:a.eval x=.pointer (some ⟨X,0,none⟩)) (hy:a.eval y=.agg c') (T:TypeId) (c:Array Value) (hB:w.heap[X]? =some (.cells c T (0,0)))
  (hi:(Tryz.prog.info? ty).map (·.size)=some c'.size) (hs:c.size=c'.size) (h1:c'.all (·.oneCell')=true)
  (h:∀w',w'.heap[X]? =some (.cells c' T (0,0))->Only X w w'->K (a.put o.dst undef) w'):o.wp Tryz.prog a w K Q:=
 wp_store_row ty x y ho X _ hx hy T _ hB hi hs h1 (h _ (setRow_heap w X _ _ _ _ hB) (only_setRow _ _ _))
theorem run_storeVar_cell (w:World) (g k:Nat) (T ty:TypeId) (cur:Array Value) (v:Value) (hg:w.heap[g]? =some (.cells cur T (0,0))) (hk:k<cur.size) (hi:(Tryz.prog.info? ty).map (·.size)=some 1)
  (h1:v.oneCell'=true):(storeVar ty ⟨g,k,none⟩ v).run Tryz.prog w=.ok () (w.setRow g (cur.setIfInBounds k v)):=by
 have:=run_storeCells_at (P:=Tryz.prog) g k T [v] 0 cur w hg (by simp;omega) (fun x hx=>by simp at hx;subst hx;exact h1);have hc:v.cells=#[v]:=by cases v<;>first|rfl|cases h1
 have e:(cur.toList.take (k+0)++[v]++cur.toList.drop (k+0+[v].length)).toArray=cur.setIfInBounds k v:=by
  apply Array.ext_getElem?;intro i;simp only[Nat.add_zero,List.length_cons,List.length_nil,List.getElem?_toArray,Array.getElem?_setIfInBounds];rw[List.append_assoc,List.getElem?_append];simp only[List.length_take,Array.length_toList];by_cases h:i<k
  ·rw[if_pos (by omega),List.getElem?_take_of_lt h,if_neg (by omega)]
   simp
  ·rw[if_neg (by omega)]
   by_cases h':i=k
   ·subst h'
    rw[if_pos rfl,if_pos hk,show i-min i cur.size=0 by omega];simp
   ·rw[if_neg (by omega),show i-min k cur.size=(i-k-1)+1 by omega]
    simp only[List.singleton_append,List.getElem?_cons_succ,List.getElem?_drop];rw[show k+(0+1)+(i-k-1)=i by omega];simp
 rw[e]at this;cases hq:Tryz.prog.info? ty with
 |none=>simp[hq]at hi
 |some i=>
  have hs:i.size=1:=by simpa[hq]using hi
  simp[storeVar,sizeOf,typeInfo,hq,hc,hs,this]
theorem st_cell {ops:Array Oper} {rest:List Oper} {o:Oper} {a:Act} {w:World} {Q:Exit->Act->World->Prop} (hgd:o.guard=none) (ty:TypeId) (x y:Operand) (ho:o.op=.store ty x y)
  (X k:Nat) (v:Value) (hx:a.eval x=.pointer (some ⟨X,k,none⟩)) (hy:a.eval y=v) (h1:v.oneCell'=true) (T:TypeId) (c:Array Value) (hB:w.heap[X]? =some (.cells c T (0,0)))
  (hi:(Tryz.prog.info? ty).map (·.size)=some 1) (hk:k<c.size)
  (h:∀w',w'.heap[X]? =some (.cells (c.setIfInBounds k v) T (0,0))->Only X w w'->wpList Tryz.prog ops Q rest (a.put o.dst undef) w'):wpList Tryz.prog ops Q (o::rest) a w:=
 wpList_plain hgd fun _ hK=>by
  unfold Oper.wp execOp;simp only[ho,hx,hy,Instr.storeAt,Instr.sureAddr,Sem.run_bind,Sem.run_pure,Result.andThen_ok,run_storeVar_cell w X k T ty c v hB hk hi h1];exact hK _ _ (h _ (setRow_heap w X _ _ _ _ hB) (only_setRow _ _ _))
theorem ld_if {ops:Array Oper} {rest:List Oper} {o:Oper} {a:Act} {w:World} {Q:Exit->Act->World->Prop} (hwd:Region.wanted o (yielded ops a.tmps)=true) (ty:TypeId) (x:Operand) (ho:o.op=.load ty x)
  (X:Nat) (hx:a.eval x=.pointer (some ⟨X,0,none⟩)) (T:TypeId) (c:Array Value) (fr:Nat×Nat) (d:TypeDesc) (hB:w.heap[X]? =some (.cells c T fr))
  (hu:Tryz.prog.underlying ty=some d) (hd:d.isRow=true) (hi:(Tryz.prog.info? ty).map (·.size)=some c.size)
  (h:wpList Tryz.prog ops Q rest (a.put o.dst (.agg c)) w):wpList Tryz.prog ops Q (o::rest) a w:=
 wpList_step fun _ hK=>by
  rw[if_pos hwd];exact wp_load_row ty x ho X hx T c fr d hB hu (by cases d<;>simp_all[TypeDesc.isRow]) hi (hK _ _ h)
def IntsAt (w:World) (v:Value) (zs:List Int):Prop:=
 ∃(a:Option Addr) (cap b o:Nat),v=.slice a zs.length cap/\(0<zs.length->a=some ⟨b,o,none⟩)/\(∀j,j<zs.length->w.cell? ⟨b,o+j,none⟩=some (.int .i64 (zs.getD j 0)))/\
  (∀n∈zs,-9223372036854775808<=n/\n<=9223372036854775807)/\zs.length<=maxLen
theorem IntsAt.later {w w':World} {v:Value} {zs:List Int} (h:IntsAt w v zs) (hb:Below w.heap.size w w'):IntsAt w' v zs:=by
 obtain⟨a,cap,b,o,h1,h2,h3,h4⟩:=h;exact⟨a,cap,b,o,h1,h2,fun j hj=>(hb.cell (p:=⟨b,o+j,none⟩) (World.block_lt_of_cell? w _ (h3 j hj))).trans (h3 j hj),h4⟩
def iv (l:List Int):List Value:=l.map fun n=>.int .i64 n
theorem iv_len (l:List Int):(iv l).length=l.length:=by simp[iv]
def Ints (B:Nat) (v:Value) (l:List Int) (w:World):Prop:=w.ownsRowF B 3 1 v l.length (iv l)/\B<=w.heap.size
section
variable {B : Nat} {v : Value} {l : List Int} {w w1 : World}
theorem Ints.nil (h:B<=w.heap.size):Ints B (.slice none 0 0) [] w:=⟨World.ownsRowF_nil _ _ _ _,h⟩
theorem Ints.lit (hB:B<=w.heap.size) (cs:Array Value) (l:List Int) (hc:cs.toList=iv l) (hl4:l.length<=4096):
  Ints B (.slice (some ⟨w.heap.size,0,none⟩) l.length l.length) l (w.alloc (.cells cs 3)):=by
 have hl:l.length<=maxLen:=by unfold maxLen;omega
 have hs:cs.size=l.length*1:=by rw[<-Array.length_toList,hc,iv_len];omega
 refine⟨?_,by simp;omega⟩;have:=World.ownsRowF_of (World.ownsRow_lit (base:=B) (e:=3) (size:=1) w cs l.length hB hl hs);rwa[hc]at this
theorem Ints.low {B':Nat} (h:Ints B v l w) (hB:B'<=B):Ints B' v l w:=by
 obtain⟨⟨h1,h2⟩,h3⟩:=h;refine⟨⟨h1,?_⟩,by omega⟩;rcases h2 with h2|⟨g,cap,cur,fz,a1,a2,a3⟩
 ·exact .inl h2
 ·exact .inr ⟨g,cap,cur,fz,a1,by omega,a3⟩
theorem Ints.grown {row:Option Nat} (h:Ints B v l w) (hg:w.grownBy w1 row) (hne:v.ownBlock=none\/v.ownBlock≠row):Ints B v l w1:=⟨h.1.kept hg hne,Nat.le_trans h.2 hg.size⟩
theorem Ints.later (h:Ints B v l w) (hb:Below w.heap.size w w1):Ints B v l w1:=h.grown (row:=none) ⟨hb.os,hb.tape,hb.output,hb.size,fun k hk _=>hb.block k hk⟩ (by cases v.ownBlock<;>simp)
theorem Ints.alloc (h:Ints B v l w) (o:Obj):Ints B v l (w.alloc o):=h.later ((Below.refl _ _).alloc (Nat.le_refl _) o)
theorem Ints.src (h:Ints B v l w) (hn:l≠[]):∃ad c,v=.slice (some ad) l.length c/\∀j u,(iv l)[j]? =some u->w.cell? (ad.add j)=some u:=by
 obtain⟨hr,_⟩:=h;have hr':=hr;obtain⟨h1,h2⟩:=hr;rcases h2 with⟨_,h2⟩|⟨g,cap,cur,fz,a1,a2,a3,a4⟩
 ·exact absurd (List.eq_nil_of_length_eq_zero h2) hn
 ·subst a1
  exact⟨⟨g,0,none⟩,cap,rfl,hr'.cells rfl⟩
theorem Ints.len (h:Ints B v l w):∃a c,v=.slice a l.length c:=by
 obtain⟨⟨_,h2⟩,_⟩:=h;rcases h2 with⟨rfl,h2⟩|⟨g,cap,cur,fz,rfl,_⟩
 ·exact⟨none,0,by rw[h2]⟩
 ·exact⟨_,_,rfl⟩
end
theorem int_info:(Tryz.prog.info? 3).map (fun i=>(i.zero,i.size,i.bytes))=some (some (.int .i64 0),1,8):=by kernel_rfl
end Go.Proofs.YtengibnpebfblaaGreatDoor
namespace Go.Proofs.YtengibnpebfblaaGreatDoor
open Go.RowKit
def commonS:List UInt8->List UInt8->Nat
 |a::l,b::r=>if a=b then commonS l r+1 else 0
 |_,_=>0
def orderS (a b:List UInt8):Int:=if a=b then 0 else if a<b then-1 else 1
theorem commonS_of:∀(k:Nat) (l r:List UInt8),l.take k=r.take k->k<=l.length->k<=r.length->(k=l.length\/k=r.length\/l[k]? ≠r[k]?)->commonS l r=k
 |0,l,r,_,_,_,h=>by
  cases l with
  |nil=>rfl
  |cons a l=>
   cases r with
   |nil=>rfl
   |cons b r=>
    rcases h with h|h|h
    ·simp at h
    ·simp at h
    ·have:¬a=b:=by simpa using h
     simp[commonS,this]
 |k+1,l,r,ht,hl,hr,h=>by
  cases l with
  |nil=>simp at hl
  |cons a l=>
   cases r with
   |nil=>simp at hr
   |cons b r=>
    simp only[List.take_succ_cons,List.cons.injEq]at ht;simp only[List.length_cons]at hl hr h;simp only[commonS];rw[if_pos ht.1,commonS_of k l r ht.2 (by omega) (by omega) (by
     rcases h with h|h|h
     ·exact .inl (by omega)
     ·exact .inr (.inl (by omega))
     ·exact .inr (.inr (by simpa using h)))]
theorem commonS_le:∀(l r:List UInt8),commonS l r<=l.length/\commonS l r<=r.length/\l.take (commonS l r)=r.take (commonS l r)/\(commonS l r=l.length\/commonS l r=r.length\/l[commonS l r]? ≠r[commonS l r]?)
 |[],r=>by simp[commonS]
 |_::_,[]=>by simp[commonS]
 |a::l,b::r=>by
  obtain⟨h1,h2,h3,h4⟩:=commonS_le l r;simp only[commonS];by_cases h:a=b
  ·rw[if_pos h]
   refine⟨by simp;omega,by simp;omega,by simp[h,h3],?_⟩;rcases h4 with h4|h4|h4
   ·exact .inl (by simp[h4])
   ·exact .inr (.inl (by simp[h4]))
   ·exact .inr (.inr (by simpa using h4))
  ·rw[if_neg h]
   exact⟨by simp,by simp,by simp,.inr (.inr (by simpa using h))⟩
theorem order_of (l r:List UInt8):∀k,l.take k=r.take k->k<=l.length->k<=r.length->
  (k=l.length->k=r.length->orderS l r=0)/\(k=l.length->¬k=r.length->orderS l r= -1)/\(¬k=l.length->k=r.length->orderS l r=1)/\
  (∀(h1:k<l.length) (h2:k<r.length),(l[k]<r[k]->orderS l r= -1)/\(r[k]<l[k]->orderS l r=1)):=by
 intro k;induction k generalizing l r with
 |zero=>
  intro _ _ _;cases l with
  |nil=>
   cases r with
   |nil=>simp[orderS]
   |cons b r=>simp[orderS]
  |cons a l=>
   cases r with
   |nil=>simp[orderS]
   |cons b r=>
    simp only[List.length_cons,orderS];refine⟨by omega,by omega,by omega,fun _ _=>⟨fun h=> ?_,fun h=> ?_⟩⟩
    ·have h':a<b:=by simpa using h
     rw[if_neg (by simp;intro e;rw[e]at h';exact absurd h' (UInt8.lt_irrefl _)),if_pos (by rw[List.cons_lt_cons_iff];exact .inl h')]
    ·have h':b<a:=by simpa using h
     rw[if_neg (by simp;intro e;rw[e]at h';exact absurd h' (UInt8.lt_irrefl _)),if_neg (by
      rw[List.cons_lt_cons_iff];rintro(h2|⟨h2,_⟩)
      ·rw[UInt8.lt_iff_toNat_lt]at h' h2;omega
      ·rw[h2]at h';exact absurd h' (UInt8.lt_irrefl _))]
 |succ k ih=>
  intro ht hl hr;cases l with
  |nil=>simp at hl
  |cons a l=>
   cases r with
   |nil=>simp at hr
   |cons b r=>
    simp only[List.take_succ_cons,List.cons.injEq]at ht;obtain⟨rfl,ht⟩:=ht;have e:orderS (a::l) (a::r)=orderS l r:=by
     unfold orderS;have h1:(a::l=a::r)↔l=r:=by simp
     have h2:(a::l<a::r)↔l<r:=by
      rw[List.cons_lt_cons_iff];exact⟨fun h=>by rcases h with h|h;exact absurd h (UInt8.lt_irrefl _);exact h.2,fun h=>.inr ⟨rfl,h⟩⟩
     simp only[h1,h2]
    rw[e];have:=ih l r ht (by simpa using hl) (by simpa using hr);simp only[List.length_cons,Nat.add_right_cancel_iff];refine⟨this.1,this.2.1,this.2.2.1,fun h1 h2=> ?_⟩;have:=this.2.2.2 (by omega) (by omega);simpa using this
def hval (c:UInt8) (great:Bool):Nat:=
 if 48<=c.toNat/\c.toNat<=57 then c.toNat-48 else if 97<=c.toNat/\c.toNat<=102 then c.toNat-87 else if great=true/\65<=c.toNat/\c.toNat<=70 then c.toNat-55 else 16
section
variable {P : Program} {md : Region.Mode} {ops : Array Oper} {Q : Exit → Act → World → Prop}
theorem rows_wide {F:Fence} {n l:Nat} (hF:F=Fence.wide.inRound l) {row:String} {args:Array Value} {w:World} {R:Value->World->Prop} (h:Rows P row args w R):RowsIn F n P row args w R:=fun c cs _=>by
 subst hF;obtain⟨v,w',r,s⟩:=h c cs;exact⟨v,w',r,stepsIn_wide.2 s⟩
theorem wp_in_round {n l:Nat} {o:Oper} {a:Act} {w:World} {K:Act->World->Prop} (hd:∀c,o.op≠.defer c) (h:o.wp P a w K Q):o.wpIn (Fence.wide.inRound l) n P a w K Q:=by
 unfold Oper.wpIn;refine⟨fun _ _=>trivial,?_⟩;rw[Oper.semAt_eq _ _ _ hd];unfold Oper.wp at h;generalize(execOp a.eval o).run P w=r at h ⊢;cases r with
 |ok x w'=>
  cases x with
  |value v=>exact h
  |skip=>exact h
  |defer d=>exact h
  |enter f args=>exact⟨fun hh=>by simp[Fence.wide]at hh,CallsIn.inRound l (callsIn_wide.2 h)⟩
  |row row args=>exact⟨fun hh=>by simp[Fence.wide]at hh,rows_wide rfl h⟩
  |_=>exact h.elim
 |halt x w'=>
  cases x with
  |panic v=>exact h
  |_=>exact h.elim
theorem wpOp_in {n l i:Nat} {a:Act} {w:World} {K:Act->World->Prop} (hd:∀(j:Nat) (o:Oper),ops[j]? =some o->∀c,o.op≠.defer c) (hq:¬LetsOut Q) (h:wpOp P ops Q i K a w):wpOpIn (Fence.wide.inRound l) n P ops Q i K a w:=by
 unfold wpOp at h;unfold wpOpIn;cases ho:ops[i]? with
 |none=>rw[ho]at h;exact h
 |some o=>
  rw[ho]at h;simp only at h ⊢;split at h
  ·rename_i hw
   rw[if_pos hw];rcases h with h|h
   ·exact wp_in_round (hd i o ho) h
   ·exact absurd h.2 hq
  ·rename_i hw
   rw[if_neg hw];exact⟨fun _ _=>trivial,h⟩
theorem wpAny_in {n l:Nat} (hd:∀(j:Nat) (o:Oper),ops[j]? =some o->∀c,o.op≠.defer c) (hq:¬LetsOut Q):
  ∀(fuel:Nat) (listed:Array Bool) (a:Act) (w:World),wpAny P md ops Q fuel listed a w->wpAnyIn (Fence.wide.inRound l) n P md ops Q fuel listed a w
 |0,_,_,_,h=>h
 |fuel+1,listed,a,w,h=>⟨h.1,fun i hi=>by
  have:=wpOp_in (n:=n) (l:=l) hd hq (h.2 i hi);refine wpOpIn_mono (fun a' w' h'=> ?_) this;exact wpAny_in hd hq fuel _ a' w' h'⟩
def noDefer (ops:Array Oper):Bool:=ops.toList.all fun o=>match o.op with| .defer _=>false|_=>true
theorem no_defer (h:noDefer ops=true):∀(j:Nat) (o:Oper),ops[j]? =some o->∀c,o.op≠.defer c:=by
 intro j o ho c hc;unfold noDefer at h;rw[List.all_eq_true]at h;have:=h o (by rw[<-Array.getElem?_toList]at ho;exact List.mem_of_getElem? ho);rw[hc]at this;cases this
theorem region_T_in {S:World->Prop} {n l id:Nat} {a:Act} {w:World} (U:List Nat) (hm:P.follows .mixedOrders=true) (hd:noDefer ops=true) (hq:¬LetsOut Q) (hS:S w.drew)
  (h:S w.drew->wpAnyT P .any ops Q S U ops.size (Array.replicate ops.size false) a w.drew):(Code.region id ops true).wpIn (Fence.wide.inRound l) n P Q a w:=
 wpIn_region_any hm (wpAny_in (no_defer hd) hq _ _ _ _ (wpAnyT_any _ _ _ _ (h hS)))
theorem list_in {n l:Nat} {rest:List Oper} {o:Oper} {a:Act} {w:World} (hgd:o.guard=none) (hd:∀c,o.op≠.defer c)
  (h:∀K:Act->World->Prop,(∀a w,wpListIn (Fence.wide.inRound l) n P ops Q rest a w->K a w)->o.wp P a w K Q):wpListIn (Fence.wide.inRound l) n P ops Q (o::rest) a w:=
 wpListIn_plain hgd fun K hK=>wp_in_round hd (h K hK)
end
theorem ld_in {ops:Array Oper} {rest:List Oper} {o:Oper} {a:Act} {w:World} {Q:Exit->Act->World->Prop} {n l:Nat} (hgd:o.guard=none) (ty:TypeId) (x:Operand) (ho:o.op=.load ty x)
  (X:Nat) (hx:a.eval x=.pointer (some ⟨X,0,none⟩)) (T:TypeId) (c:Array Value) (fr:Nat×Nat) (d:TypeDesc) (hB:w.heap[X]? =some (.cells c T fr))
  (hu:Tryz.prog.underlying ty=some d) (hd:d.isRow=true) (hi:(Tryz.prog.info? ty).map (·.size)=some c.size)
  (h:wpListIn (Fence.wide.inRound l) n Tryz.prog ops Q rest (a.put o.dst (.agg c)) w):wpListIn (Fence.wide.inRound l) n Tryz.prog ops Q (o::rest) a w:=
 list_in hgd (fun c' hc=>by rw[ho]at hc;cases hc) fun _ hK=>wp_load_row ty x ho X hx T c fr d hB hu (by cases d<;>simp_all[TypeDesc.isRow]) hi (hK _ _ h)
end Go.Proofs.YtengibnpebfblaaGreatDoor
namespace Go.Proofs.YtengibnpebfblaaGreatDoor
open Go.RowKit
def SegAt (w:World) (v:Value) (zs:List Int):Prop:=∃(a:Option Addr) (cap:Nat),v=.slice a zs.length cap/\(0<zs.length->∃ad,a=some ad/\∀j u,(iv zs)[j]? =some u->w.cell? (ad.add j)=some u)
def LisAt (w:World) (v:Value) (zs:List Int):Prop:=
 (zs=[]/\v=.slice none 0 0)\/(0<zs.length/\∃(g c:Nat) (cs:Array Value) (fr:Nat×Nat),v=.slice (some ⟨g,0,none⟩) zs.length c/\zs.length<=c/\w.heap[g]? =some (.cells cs 3 fr)/\∀(j:Nat) (u:Value),(iv zs)[j]? =some u->cs[j]? =some u)
def LisFrom (B:Nat) (w:World) (v:Value) (zs:List Int):Prop:=
 (zs=[]/\v=.slice none 0 0)\/(0<zs.length/\∃(g c:Nat) (cs:Array Value) (fr:Nat×Nat),B<=g/\v=.slice (some ⟨g,0,none⟩) zs.length c/\zs.length<=c/\w.heap[g]? =some (.cells cs 3 fr)/\∀(j:Nat) (u:Value),(iv zs)[j]? =some u->cs[j]? =some u)
theorem LisFrom.at_ {B:Nat} {w:World} {v:Value} {zs:List Int}:LisFrom B w v zs->LisAt w v zs
 | .inl h=>.inl h
 | .inr ⟨h0,g,c,cs,fr,_,h⟩=>.inr ⟨h0,g,c,cs,fr,h⟩
theorem SegAt.later {w w':World} {v:Value} {zs:List Int} (h:SegAt w v zs) (hb:Below w.heap.size w w'):SegAt w' v zs:=by
 obtain⟨a,cap,rfl,h2⟩:=h;refine⟨a,cap,rfl,fun h0=> ?_⟩;obtain⟨ad,rfl,hc⟩:=h2 h0;exact⟨ad,rfl,fun j u hu=>(hb.cell (p:=ad.add j) (World.block_lt_of_cell? w _ (hc j u hu))).trans (hc j u hu)⟩
theorem LisAt.nil (w:World):LisAt w (.slice none 0 0) []:=.inl ⟨rfl,rfl⟩
theorem LisAt.kept {w w':World} {v:Value} {zs:List Int} {row:Option Nat} (h:LisAt w v zs) (hg:w.grownBy w' row) (hT:∀X,row=some X->∃cs T fr,w.heap[X]? =some (.cells cs T fr)/\T≠3):LisAt w' v zs:=by
 rcases h with h|⟨h0,g,c,cs,fr,h1,h2,h3,h4⟩
 ·exact .inl h
 ·refine .inr ⟨h0,g,c,cs,fr,h1,h2,?_,h4⟩
  refine(hg.block g (gZ h3) ?_).trans h3;intro e;obtain⟨cs',T,fr',hX,hne⟩:=hT g e.symm;rw[h3]at hX;simp only[Option.some.injEq,Obj.cells.injEq]at hX;exact hne hX.2.1.symm
theorem add_at (g o j:Nat):(⟨g,o,none⟩:Addr).add j=⟨g,o+j,none⟩:=by
 unfold Addr.add;split<;>simp_all
theorem LisAt.cells {w:World} {v:Value} {zs:List Int} (h:LisAt w v zs):SegAt w v zs:=by
 rcases h with⟨rfl,rfl⟩|⟨h0,g,c,cs,fr,rfl,h2,h3,h4⟩
 ·exact⟨none,0,rfl,fun h=>absurd h (by simp)⟩
 ·refine⟨_,c,rfl,fun _=>⟨_,rfl,fun j u hu=> ?_⟩⟩
  rw[add_at,Nat.zero_add];exact cell_in h3 (h4 j u hu)
theorem int_size:(Tryz.prog.info? 3).map (·.size)=some 1:=by kernel_rfl
theorem LisAt.later {w w':World} {v:Value} {zs:List Int} (h:LisAt w v zs) (hb:Below w.heap.size w w'):LisAt w' v zs:=
 h.kept (row:=none) ⟨hb.os,hb.tape,hb.output,hb.size,fun k hk _=>hb.block k hk⟩ (fun _ e=>by cases e)
theorem LisAt.shape {w:World} {v:Value} {zs:List Int} (h:LisAt w v zs):∃a n,v=.slice a zs.length n/\zs.length<=n:=by
 rcases h with⟨rfl,rfl⟩|⟨_,g,c,_,_,rfl,h,_,_⟩
 ·exact⟨none,0,rfl,Nat.le_refl _⟩
 ·exact⟨_,c,rfl,h⟩
theorem IntsAt.range {w:World} {v:Value} {zs:List Int} (h:IntsAt w v zs):∀n∈zs,-9223372036854775808<=n/\n<=9223372036854775807:=by
 obtain⟨_,_,_,_,_,_,_,h,_⟩:=h;exact h
structure From (n:Nat) (w w':World):Prop where
 os:w'.os=w.os
 tape:w'.tape=w.tape
 output:w'.output=w.output
 size:w.heap.size<=w'.heap.size
 block:∀k,n<=k->k<w.heap.size->w'.heap[k]? =w.heap[k]?
theorem From.refl (n:Nat) (w:World):From n w w:=⟨rfl,rfl,rfl,Nat.le_refl _,fun _ _ _=>rfl⟩
theorem From.trans {n:Nat} {a b c:World} (h:From n a b) (k:From n b c):From n a c:=
 ⟨k.os.trans h.os,k.tape.trans h.tape,k.output.trans h.output,Nat.le_trans h.size k.size,fun j h1 h2=>(k.block j h1 (Nat.lt_of_lt_of_le h2 h.size)).trans (h.block j h1 h2)⟩
theorem From.below {n:Nat} {a b:World} (h:Below a.heap.size a b):From n a b:=⟨h.os,h.tape,h.output,h.size,fun j _ h2=>h.block j h2⟩
theorem From.only {n X:Nat} {a b:World} (h:Only X a b) (hX:X<n):From n a b:=
 ⟨h.by_.os,h.by_.tape,h.by_.output,h.by_.size,fun j h1 h2=>h.by_.block j h2 (by simp;omega)⟩
end Go.Proofs.YtengibnpebfblaaGreatDoor
