import Derived.Test.YtengibnpebfblaaGreatDoorQ0
import Derived.Test.YtengibnpebfblaaGreatDoorQ1
set_option maxRecDepth 1000000
set_option maxHeartbeats 8000000
set_option linter.unusedSimpArgs false
namespace Go.Proofs.YtengibnpebfblaaGreatDoor
open Go.RowKit
theorem pq:(∀(a:Act) (v:Value),a.put none v=a)/\(∀(a:Act) (i:Nat) (v:Value),a.put (some i) v={a with tmps:=a.tmps.setIfInBounds i v})/\(∀(l:List Value) (i:Nat) (a:Value),l.toArray.setIfInBounds i a=(l.set i a).toArray)/\(∀(a b:Value) (l:List Value),(a::l).set 0 b=b::l)/\(∀(a b:Value) (l:List Value) (n:Nat),(a::l).set (n+1) b=a::l.set n b):=
  ⟨fun _ _=>rfl,fun _ _ _=>rfl,fun _ _ _=>aA ..,fun _ _ _=>aB,fun _ _ _ _=>aC⟩
theorem tW {a b c:World} (h:Below a.heap.size a b) (k:Below b.heap.size b c):Below a.heap.size a c:=h.trans (k.mono h.size)
theorem iH {p:Prop} (h:p):Hid p:=h
theorem gZ {α:Type} {l:Array α} {i:Nat} {a:α} (h:l[i]? =some a):i<l.size:=(Array.getElem?_eq_some_iff.1 h).1
theorem kW {w w':World} {g:Nat} {o:Obj} (hb:Below w.heap.size w w') (h:w.heap[g]? =some o):w'.heap[g]? =some o:=(hb.block _ (Array.getElem?_eq_some_iff.1 h).1).trans h
theorem Below.drewMany {B:Nat} {w w1:World} (h:Below B w w1) (n:Nat):Below B w (w1.drewN n):=⟨h.os,h.tape,h.output,h.size,h.block⟩
theorem Below.newly' (w:World) (o:Obj):Below w.heap.size w (w.alloc o):=(aY _ _).alloc (aE _) o
theorem Below.more {w w1:World} (h:Below w.heap.size w w1) (o:Obj):Below w.heap.size w (w1.alloc o):=h.alloc h.size o
theorem bE (w:World):Below w.heap.size w w.drew:=Below.drewMany (aY _ w) 1
structure jK (X:Nat) (w w':World):Prop where
 by_:w.grownBy w' (some X)
 size:w'.heap.size=w.heap.size
theorem jK.refl (X:Nat) (w:World):jK X w w:=⟨⟨rfl,rfl,rfl,aE _,fun _ _ _=>rfl⟩,rfl⟩
theorem jK.below {X B:Nat} {w w':World} (h:jK X w w') (hB:B<=X):Below B w w':=
 ⟨h.by_.os,h.by_.tape,h.by_.output,h.by_.size,fun k hk=>by
  by_cases hlt:k<w.heap.size
  ·exact h.by_.block k hlt uDv
  ·have hz:=h.size
   rw[Array.getElem?_eq_none uAu,Array.getElem?_eq_none uAu]⟩
theorem jK.trans {X:Nat} {a b c:World} (h:jK X a b) (k:jK X b c):jK X a c:=
 ⟨⟨k.by_.os.trans h.by_.os,k.by_.tape.trans h.by_.tape,k.by_.output.trans h.by_.output,aG h.by_.size k.by_.size,fun i hi hne=>(k.by_.block i (cQ hi h.by_.size) hne).trans (h.by_.block i hi hne)⟩,k.size.trans h.size⟩
theorem jK.other {X Y:Nat} {w w':World} {o:Obj} (h:jK X w w') (hy:w.heap[Y]? =some o) (hne:Y≠X):w'.heap[Y]? =some o:=
 (h.by_.block Y (gZ hy) (by simpa using fun e=>hne e)).trans hy
theorem jA (w:World) (X:Nat) (c:Array Value):jK X w (w.setRow X c):=by
 refine⟨⟨rfl,rfl,rfl,by simp[World.setRow],fun j hj hne=> ?_⟩,by simp[World.setRow]⟩;simp only[World.setRow];rw[Array.getElem?_modify];split
 ·subst_vars;simp at hne
 ·rfl
theorem aK {W:World} {X:Nat} {c:Array Value} {T:TypeId} {fr:Nat×Nat} (h:W.heap[X]? =some (.cells c T fr)) {j:Nat} {v:Value} (hv:c[j]? =some v):W.cell? ⟨X,j,none⟩=some v:=by
 rw[cell_of_row W X j c T fr h,hv]
theorem bV {ops:Array Oper} {rest:List Oper} {o:Oper} {a:Act} {w:World} {Q:Exit->Act->World->Prop} (hgd:o.guard=none) (ty:TypeId) (x y:Operand) (ho:o.op=.store ty x y)
  (X:Nat) (c':Array Value) (hx:a.eval x=.pointer (some ⟨X,0,none⟩)) (hy:a.eval y=.agg c') (T:TypeId) (c:Array Value) (hB:w.heap[X]? =some (.cells c T (0,0)))
  (hi:(Tryz.prog.info? ty).map (·.size)=some c'.size) (hs:c.size=c'.size) (h1:c'.all (·.oneCell')=true)
  (h:∀w',w'.heap[X]? =some (.cells c' T (0,0))->jK X w w'->wpList Tryz.prog ops Q rest (a.put o.dst undef) w'):wpList Tryz.prog ops Q (o::rest) a w:=
 cW hgd fun _ hK=>wp_store_row ty x y ho X _ hx hy T _ hB hi hs h1 (hK _ _ (h _ (mK w X _ _ _ _ hB) (jA _ _ _)))
theorem kH {o:Oper} {a:Act} {w:World} {K:Act->World->Prop} {Q:Exit->Act->World->Prop} (ty:TypeId) (x y:Operand) (ho:o.op=.store ty x y)
  (X:Nat) (c':Array Value) (hx:a.eval x=.pointer (some ⟨X,0,none⟩)) (hy:a.eval y=.agg c') (T:TypeId) (c:Array Value) (hB:w.heap[X]? =some (.cells c T (0,0)))
  (hi:(Tryz.prog.info? ty).map (·.size)=some c'.size) (hs:c.size=c'.size) (h1:c'.all (·.oneCell')=true)
  (h:∀w',w'.heap[X]? =some (.cells c' T (0,0))->jK X w w'->K (a.put o.dst undef) w'):o.wp Tryz.prog a w K Q:=
 wp_store_row ty x y ho X _ hx hy T _ hB hi hs h1 (h _ (mK w X _ _ _ _ hB) (jA _ _ _))
theorem nD (w:World) (g k:Nat) (T ty:TypeId) (cur:Array Value) (v:Value) (hg:w.heap[g]? =some (.cells cur T (0,0))) (hk:k<cur.size) (hi:(Tryz.prog.info? ty).map (·.size)=some 1)
  (h1:v.oneCell'=true):(storeVar ty ⟨g,k,none⟩ v).run Tryz.prog w=.ok () (w.setRow g (cur.setIfInBounds k v)):=by
 have:=kZ (P:=Tryz.prog) g k T [v] 0 cur w hg uDv (fun x hx=>by simp at hx;subst hx;exact h1);have hc:v.cells=#[v]:=by cases v<;>first|rfl|cases h1
 have e:(cur.toList.take (k+0)++[v]++cur.toList.drop (k+0+[v].length)).toArray=cur.setIfInBounds k v:=by
  apply Array.ext_getElem?;intro i;simp only[kA,aL,bG,List.getElem?_toArray,Array.getElem?_setIfInBounds];rw[bN,List.getElem?_append];simp only[aV,bB];by_cases h:i<k
  ·rw[if_pos uAu,List.getElem?_take_of_lt h,if_neg uAu]
   simp
  ·rw[if_neg uAu]
   by_cases h':i=k
   ·subst h'
    rw[if_pos rfl,if_pos hk,show i-min i cur.size=0 by omega];simp
   ·rw[if_neg uAu,show i-min k cur.size=(i-k-1)+1 by omega]
    simp only[aCn,List.getElem?_cons_succ,List.getElem?_drop];rw[show k+(0+1)+(i-k-1)=i by omega];simp
 rw[e]at this;cases hq:Tryz.prog.info? ty with
 |none=>simp[hq]at hi
 |some i=>
  have hs:i.size=1:=by simpa[hq]using hi
  simp[storeVar,sizeOf,typeInfo,hq,hc,hs,this]
theorem qZ {ops:Array Oper} {rest:List Oper} {o:Oper} {a:Act} {w:World} {Q:Exit->Act->World->Prop} (hgd:o.guard=none) (ty:TypeId) (x y:Operand) (ho:o.op=.store ty x y)
  (X k:Nat) (v:Value) (hx:a.eval x=.pointer (some ⟨X,k,none⟩)) (hy:a.eval y=v) (h1:v.oneCell'=true) (T:TypeId) (c:Array Value) (hB:w.heap[X]? =some (.cells c T (0,0)))
  (hi:(Tryz.prog.info? ty).map (·.size)=some 1) (hk:k<c.size)
  (h:∀w',w'.heap[X]? =some (.cells (c.setIfInBounds k v) T (0,0))->jK X w w'->wpList Tryz.prog ops Q rest (a.put o.dst undef) w'):wpList Tryz.prog ops Q (o::rest) a w:=
 cW hgd fun _ hK=>by
  unfold Oper.wp execOp;simp only[ho,hx,hy,Instr.storeAt,Instr.sureAddr,fF,fR,cS,nD w X k T ty c v hB hk hi h1];exact Ak6
theorem bR {ops:Array Oper} {rest:List Oper} {o:Oper} {a:Act} {w:World} {Q:Exit->Act->World->Prop} (hwd:Region.wanted o (yielded ops a.tmps)=true) (ty:TypeId) (x:Operand) (ho:o.op=.load ty x)
  (X:Nat) (hx:a.eval x=.pointer (some ⟨X,0,none⟩)) (T:TypeId) (c:Array Value) (fr:Nat×Nat) (d:TypeDesc) (hB:w.heap[X]? =some (.cells c T fr))
  (hu:Tryz.prog.underlying ty=some d) (hd:d.isRow=true) (hi:(Tryz.prog.info? ty).map (·.size)=some c.size)
  (h:wpList Tryz.prog ops Q rest (a.put o.dst (.agg c)) w):wpList Tryz.prog ops Q (o::rest) a w:=
 wpList_step fun _ hK=>by
  rw[if_pos hwd];exact wp_load_row ty x ho X hx T c fr d hB hu uHw hi (hK _ _ h)
def xW (w:World) (v:Value) (zs:List Int):Prop:=
 ∃(a:Option Addr) (cap b o:Nat),v=.slice a zs.length cap/\(0<zs.length->a=some ⟨b,o,none⟩)/\(∀j,j<zs.length->w.cell? ⟨b,o+j,none⟩=some (.int .i64 (zs.getD j 0)))/\
  (∀n∈zs,-9223372036854775808<=n/\n<=9223372036854775807)/\zs.length<=maxLen
theorem xW.later {w w':World} {v:Value} {zs:List Int} (h:xW w v zs) (hb:Below w.heap.size w w'):xW w' v zs:=by
 obtain⟨a,cap,b,o,h1,h2,h3,h4⟩:=h;exact⟨a,cap,b,o,h1,h2,fun j hj=>(hb.cell (p:=⟨b,o+j,none⟩) (aM w _ (h3 j hj))).trans (h3 j hj),h4⟩
def iv (l:List Int):List Value:=l.map fun n=>.int .i64 n
theorem aBM (l:List Int):(iv l).length=l.length:=by simp[iv]
def sX (B:Nat) (v:Value) (l:List Int) (w:World):Prop:=w.ownsRowF B 3 1 v l.length (iv l)/\B<=w.heap.size
section
variable {B : Nat} {v : Value} {l : List Int} {w w1 : World}
theorem sX.nil (h:B<=w.heap.size):sX B (.slice none 0 0) [] w:=⟨kM _ _ _ _,h⟩
theorem sX.lit (hB:B<=w.heap.size) (cs:Array Value) (l:List Int) (hc:cs.toList=iv l) (hl4:l.length<=4096):
  sX B (.slice (some ⟨w.heap.size,0,none⟩) l.length l.length) l (w.alloc (.cells cs 3)):=by
 have hl:l.length<=maxLen:=by unfold maxLen;omega
 have hs:cs.size=l.length*1:=by rw[<-bB,hc,aBM];omega
 refine⟨?_,by simp;omega⟩;have:=nM (aIc (base:=B) (e:=3) (size:=1) w cs l.length hB hl hs);rwa[hc]at this
theorem sX.low {B':Nat} (h:sX B v l w) (hB:B'<=B):sX B' v l w:=by
 exact Af0
theorem sX.grown {row:Option Nat} (h:sX B v l w) (hg:w.grownBy w1 row) (hne:v.ownBlock=none\/v.ownBlock≠row):sX B v l w1:=⟨h.1.kept hg hne,aG h.2 hg.size⟩
theorem sX.later (h:sX B v l w) (hb:Below w.heap.size w w1):sX B v l w1:=h.grown (row:=none) ⟨hb.os,hb.tape,hb.output,hb.size,fun k hk _=>hb.block k hk⟩ uGx
theorem sX.alloc (h:sX B v l w) (o:Obj):sX B v l (w.alloc o):=h.later ((aY _ _).alloc (aE _) o)
theorem sX.src (h:sX B v l w) (hn:l≠[]):∃ad c,v=.slice (some ad) l.length c/\∀j u,(iv l)[j]? =some u->w.cell? (ad.add j)=some u:=by
 exact Ad8
theorem sX.len (h:sX B v l w):∃a c,v=.slice a l.length c:=by
 exact Ah1
end
theorem aFL:(Tryz.prog.info? 3).map (fun i=>(i.zero,i.size,i.bytes))=some (some (.int .i64 0),1,8):=by kernel_rfl
end Go.Proofs.YtengibnpebfblaaGreatDoor
namespace Go.Proofs.YtengibnpebfblaaGreatDoor
open Go.RowKit
def fN:List UInt8->List UInt8->Nat
 |a::l,b::r=>if a=b then fN l r+1 else 0
 |_,_=>0
def dM (a b:List UInt8):Int:=if a=b then 0 else if a<b then-1 else 1
theorem tT:∀(k:Nat) (l r:List UInt8),l.take k=r.take k->k<=l.length->k<=r.length->(k=l.length\/k=r.length\/l[k]? ≠r[k]?)->fN l r=k
 |0,l,r,_,_,_,h=>by
  cases l with
  |nil=>rfl
  |cons a l=>
   cases r with
   |nil=>rfl
   |cons b r=>
    rcases h with h|h|h
    ·simp at h
    ·simp at h
    ·have:¬a=b:=by simpa using h
     simp[fN,this]
 |k+1,l,r,ht,hl,hr,h=>by
  cases l with
  |nil=>simp at hl
  |cons a l=>
   cases r with
   |nil=>simp at hr
   |cons b r=>
    simp only[fP,eH]at ht;simp only[aL]at hl hr h;simp only[fN];rw[if_pos ht.1,tT k l r ht.2 uAu uAu (by
     rcases h with h|h|h
     ·exact .inl uAu
     ·exact .inr (.inl uAu)
     ·exact .inr (.inr uDw))]
theorem aC6:∀(l r:List UInt8),fN l r<=l.length/\fN l r<=r.length/\l.take (fN l r)=r.take (fN l r)/\(fN l r=l.length\/fN l r=r.length\/l[fN l r]? ≠r[fN l r]?)
 |[],r=>by simp[fN]
 |_::_,[]=>by simp[fN]
 |a::l,b::r=>by
  obtain⟨h1,h2,h3,h4⟩:=aC6 l r;simp only[fN];by_cases h:a=b
  ·rw[if_pos h]
   refine⟨by simp;omega,by simp;omega,by simp[h,h3],?_⟩;rcases h4 with h4|h4|h4
   ·exact .inl (by simp[h4])
   ·exact .inr (.inl (by simp[h4]))
   ·exact .inr (.inr (by simpa using h4))
  ·rw[if_neg h]
   exact⟨by simp,by simp,by simp,.inr (.inr uDw)⟩
theorem aKK (l r:List UInt8):∀k,l.take k=r.take k->k<=l.length->k<=r.length->
  (k=l.length->k=r.length->dM l r=0)/\(k=l.length->¬k=r.length->dM l r= -1)/\(¬k=l.length->k=r.length->dM l r=1)/\
  (∀(h1:k<l.length) (h2:k<r.length),(l[k]<r[k]->dM l r= -1)/\(r[k]<l[k]->dM l r=1)):=by
 intro k;induction k generalizing l r with
 |zero=>
  intro _ _ _;cases l with
  |nil=>
   cases r with
   |nil=>simp[dM]
   |cons b r=>simp[dM]
  |cons a l=>
   cases r with
   |nil=>simp[dM]
   |cons b r=>
    simp only[aL,dM];refine⟨by omega,by omega,by omega,fun _ _=>⟨fun h=> ?_,fun h=> ?_⟩⟩
    ·have h':a<b:=by simpa using h
     rw[if_neg uMw,if_pos (by rw[kR];exact .inl h')]
    ·have h':b<a:=by simpa using h
     rw[if_neg uMw,if_neg (by
      rw[kR];rintro(h2|⟨h2,_⟩)
      ·rw[sY]at h' h2;omega
      ·rw[h2]at h';exact absurd h' (mV _))]
 |succ k ih=>
  intro ht hl hr;cases l with
  |nil=>simp at hl
  |cons a l=>
   cases r with
   |nil=>simp at hr
   |cons b r=>
    simp only[fP,eH]at ht;obtain⟨rfl,ht⟩:=ht;have e:dM (a::l) (a::r)=dM l r:=by
     unfold dM;have h1:(a::l=a::r)↔l=r:=by simp
     have h2:(a::l<a::r)↔l<r:=by
      exact Ad1
     simp only[h1,h2]
    rw[e];have:=ih l r ht uNz uJz;simp only[aL,Nat.add_right_cancel_iff];refine⟨this.1,this.2.1,this.2.2.1,fun h1 h2=> ?_⟩;have:=this.2.2.2 uAu uAu;simpa using this
def hval (c:UInt8) (great:Bool):Nat:=
 if 48<=c.toNat/\c.toNat<=57 then c.toNat-48 else if 97<=c.toNat/\c.toNat<=102 then c.toNat-87 else if great=true/\65<=c.toNat/\c.toNat<=70 then c.toNat-55 else 16
section
variable {P : Program} {md : Region.Mode} {ops : Array Oper} {Q : Exit → Act → World → Prop}
theorem aIM {F:Fence} {n l:Nat} (hF:F=Fence.wide.inRound l) {row:String} {args:Array Value} {w:World} {R:Value->World->Prop} (h:Rows P row args w R):RowsIn F n P row args w R:=fun c cs _=>by
 subst hF;obtain⟨v,w',r,s⟩:=h c cs;exact⟨v,w',r,stepsIn_wide.2 s⟩
theorem aAh {n l:Nat} {o:Oper} {a:Act} {w:World} {K:Act->World->Prop} (hd:∀c,o.op≠.defer c) (h:o.wp P a w K Q):o.wpIn (Fence.wide.inRound l) n P a w K Q:=by
 unfold Oper.wpIn;refine⟨fun _ _=>trivial,?_⟩;rw[Oper.semAt_eq _ _ _ hd];unfold Oper.wp at h;generalize(execOp a.eval o).run P w=r at h ⊢;cases r with
 |ok x w'=>
  cases x with
  |value v=>exact h
  |skip=>exact h
  |defer d=>exact h
  |enter f args=>exact⟨fun hh=>by simp[Fence.wide]at hh,CallsIn.inRound l (cY.2 h)⟩
  |row row args=>exact⟨fun hh=>by simp[Fence.wide]at hh,aIM rfl h⟩
  |_=>exact h.elim
 |halt x w'=>
  cases x with
  |panic v=>exact h
  |_=>exact h.elim
theorem aM1 {n l i:Nat} {a:Act} {w:World} {K:Act->World->Prop} (hd:∀(j:Nat) (o:Oper),ops[j]? =some o->∀c,o.op≠.defer c) (hq:¬LetsOut Q) (h:wpOp P ops Q i K a w):wpOpIn (Fence.wide.inRound l) n P ops Q i K a w:=by
 unfold wpOp at h;unfold wpOpIn;cases ho:ops[i]? with
 |none=>rw[ho]at h;exact h
 |some o=>
  rw[ho]at h;simp only at h ⊢;split at h
  ·rename_i hw
   rw[if_pos hw];rcases h with h|h
   ·exact aAh (hd i o ho) h
   ·exact absurd h.2 hq
  ·rename_i hw
   rw[if_neg hw];exact⟨fun _ _=>trivial,h⟩
theorem aEK {n l:Nat} (hd:∀(j:Nat) (o:Oper),ops[j]? =some o->∀c,o.op≠.defer c) (hq:¬LetsOut Q):
  ∀(fuel:Nat) (listed:Array Bool) (a:Act) (w:World),wpAny P md ops Q fuel listed a w->wpAnyIn (Fence.wide.inRound l) n P md ops Q fuel listed a w
 |0,_,_,_,h=>h
 |fuel+1,listed,a,w,h=>⟨h.1,fun i hi=>by
  have:=aM1 (n:=n) (l:=l) hd hq (h.2 i hi);refine wpOpIn_mono (fun a' w' h'=> ?_) this;exact aEK hd hq fuel _ a' w' h'⟩
def aE4 (ops:Array Oper):Bool:=ops.toList.all fun o=>match o.op with| .defer _=>false|_=>true
theorem aKR (h:aE4 ops=true):∀(j:Nat) (o:Oper),ops[j]? =some o->∀c,o.op≠.defer c:=by
 intro j o ho c hc;unfold aE4 at h;rw[fO]at h;have:=h o (by rw[<-Array.getElem?_toList]at ho;exact fY ho);rw[hc]at this;cases this
theorem rB {S:World->Prop} {n l id:Nat} {a:Act} {w:World} (U:List Nat) (hm:P.follows .mixedOrders=true) (hd:aE4 ops=true) (hq:¬LetsOut Q) (hS:S w.drew)
  (h:S w.drew->dX P .any ops Q S U ops.size (Array.replicate ops.size false) a w.drew):(Code.region id ops true).wpIn (Fence.wide.inRound l) n P Q a w:=
 wpIn_region_any hm (aEK (aKR hd) hq _ _ _ _ (xA _ _ _ _ (h hS)))
theorem pP {n l:Nat} {rest:List Oper} {o:Oper} {a:Act} {w:World} (hgd:o.guard=none) (hd:∀c,o.op≠.defer c)
  (h:∀K:Act->World->Prop,(∀a w,wpListIn (Fence.wide.inRound l) n P ops Q rest a w->K a w)->o.wp P a w K Q):wpListIn (Fence.wide.inRound l) n P ops Q (o::rest) a w:=
 aDv hgd fun K hK=>aAh hd (h K hK)
end
theorem aFF {ops:Array Oper} {rest:List Oper} {o:Oper} {a:Act} {w:World} {Q:Exit->Act->World->Prop} {n l:Nat} (hgd:o.guard=none) (ty:TypeId) (x:Operand) (ho:o.op=.load ty x)
  (X:Nat) (hx:a.eval x=.pointer (some ⟨X,0,none⟩)) (T:TypeId) (c:Array Value) (fr:Nat×Nat) (d:TypeDesc) (hB:w.heap[X]? =some (.cells c T fr))
  (hu:Tryz.prog.underlying ty=some d) (hd:d.isRow=true) (hi:(Tryz.prog.info? ty).map (·.size)=some c.size)
  (h:wpListIn (Fence.wide.inRound l) n Tryz.prog ops Q rest (a.put o.dst (.agg c)) w):wpListIn (Fence.wide.inRound l) n Tryz.prog ops Q (o::rest) a w:=
 pP hgd (fun c' hc=>by rw[ho]at hc;cases hc) fun _ hK=>wp_load_row ty x ho X hx T c fr d hB hu uHw hi (hK _ _ h)
end Go.Proofs.YtengibnpebfblaaGreatDoor
namespace Go.Proofs.YtengibnpebfblaaGreatDoor
open Go.RowKit
def aDr (w:World) (v:Value) (zs:List Int):Prop:=∃(a:Option Addr) (cap:Nat),v=.slice a zs.length cap/\(0<zs.length->∃ad,a=some ad/\∀j u,(iv zs)[j]? =some u->w.cell? (ad.add j)=some u)
def sW (w:World) (v:Value) (zs:List Int):Prop:=
 (zs=[]/\v=.slice none 0 0)\/(0<zs.length/\∃(g c:Nat) (cs:Array Value) (fr:Nat×Nat),v=.slice (some ⟨g,0,none⟩) zs.length c/\zs.length<=c/\w.heap[g]? =some (.cells cs 3 fr)/\∀(j:Nat) (u:Value),(iv zs)[j]? =some u->cs[j]? =some u)
def aI9 (B:Nat) (w:World) (v:Value) (zs:List Int):Prop:=
 (zs=[]/\v=.slice none 0 0)\/(0<zs.length/\∃(g c:Nat) (cs:Array Value) (fr:Nat×Nat),B<=g/\v=.slice (some ⟨g,0,none⟩) zs.length c/\zs.length<=c/\w.heap[g]? =some (.cells cs 3 fr)/\∀(j:Nat) (u:Value),(iv zs)[j]? =some u->cs[j]? =some u)
theorem aI9.at_ {B:Nat} {w:World} {v:Value} {zs:List Int}:aI9 B w v zs->sW w v zs
 | .inl h=>.inl h
 | .inr ⟨h0,g,c,cs,fr,_,h⟩=>.inr ⟨h0,g,c,cs,fr,h⟩
theorem aDr.later {w w':World} {v:Value} {zs:List Int} (h:aDr w v zs) (hb:Below w.heap.size w w'):aDr w' v zs:=by
 obtain⟨a,cap,rfl,h2⟩:=h;refine⟨a,cap,rfl,fun h0=> ?_⟩;obtain⟨ad,rfl,hc⟩:=h2 h0;exact⟨ad,rfl,fun j u hu=>(hb.cell (p:=ad.add j) (aM w _ (hc j u hu))).trans (hc j u hu)⟩
theorem sW.nil (w:World):sW w (.slice none 0 0) []:=.inl ⟨rfl,rfl⟩
theorem sW.kept {w w':World} {v:Value} {zs:List Int} {row:Option Nat} (h:sW w v zs) (hg:w.grownBy w' row) (hT:∀X,row=some X->∃cs T fr,w.heap[X]? =some (.cells cs T fr)/\T≠3):sW w' v zs:=by
 rcases h with h|⟨h0,g,c,cs,fr,h1,h2,h3,h4⟩
 ·exact .inl h
 ·refine .inr ⟨h0,g,c,cs,fr,h1,h2,?_,h4⟩
  refine(hg.block g (gZ h3) ?_).trans h3;intro e;obtain⟨cs',T,fr',hX,hne⟩:=hT g e.symm;rw[h3]at hX;simp only[cC,dU]at hX;exact hne hX.2.1.symm
theorem qQ (g o j:Nat):(⟨g,o,none⟩:Addr).add j=⟨g,o+j,none⟩:=by
 unfold Addr.add;split<;>simp_all
theorem sW.cells {w:World} {v:Value} {zs:List Int} (h:sW w v zs):aDr w v zs:=by
 rcases h with⟨rfl,rfl⟩|⟨h0,g,c,cs,fr,rfl,h2,h3,h4⟩
 ·exact⟨none,0,rfl,fun h=>absurd h uBu⟩
 ·refine⟨_,c,rfl,fun _=>⟨_,rfl,fun j u hu=> ?_⟩⟩
  rw[qQ,dL];exact aK h3 (h4 j u hu)
theorem aBO:(Tryz.prog.info? 3).map (·.size)=some 1:=by kernel_rfl
theorem sW.later {w w':World} {v:Value} {zs:List Int} (h:sW w v zs) (hb:Below w.heap.size w w'):sW w' v zs:=
 h.kept (row:=none) ⟨hb.os,hb.tape,hb.output,hb.size,fun k hk _=>hb.block k hk⟩ (fun _ e=>by cases e)
theorem sW.shape {w:World} {v:Value} {zs:List Int} (h:sW w v zs):∃a n,v=.slice a zs.length n/\zs.length<=n:=by
 rcases h with⟨rfl,rfl⟩|⟨_,g,c,_,_,rfl,h,_,_⟩
 ·exact⟨none,0,rfl,aE _⟩
 ·exact⟨_,c,rfl,h⟩
theorem xW.range {w:World} {v:Value} {zs:List Int} (h:xW w v zs):∀n∈zs,-9223372036854775808<=n/\n<=9223372036854775807:=by
 obtain⟨_,_,_,_,_,_,_,h,_⟩:=h;exact h
structure aCF (n:Nat) (w w':World):Prop where
 os:w'.os=w.os
 tape:w'.tape=w.tape
 output:w'.output=w.output
 size:w.heap.size<=w'.heap.size
 block:∀k,n<=k->k<w.heap.size->w'.heap[k]? =w.heap[k]?
theorem aCF.refl (n:Nat) (w:World):aCF n w w:=⟨rfl,rfl,rfl,aE _,fun _ _ _=>rfl⟩
theorem aCF.trans {n:Nat} {a b c:World} (h:aCF n a b) (k:aCF n b c):aCF n a c:=
 ⟨k.os.trans h.os,k.tape.trans h.tape,k.output.trans h.output,aG h.size k.size,fun j h1 h2=>(k.block j h1 (cQ h2 h.size)).trans (h.block j h1 h2)⟩
theorem aCF.below {n:Nat} {a b:World} (h:Below a.heap.size a b):aCF n a b:=⟨h.os,h.tape,h.output,h.size,fun j _ h2=>h.block j h2⟩
theorem aCF.only {n X:Nat} {a b:World} (h:jK X a b) (hX:X<n):aCF n a b:=
 ⟨h.by_.os,h.by_.tape,h.by_.output,h.by_.size,fun j h1 h2=>h.by_.block j h2 uDv⟩
end Go.Proofs.YtengibnpebfblaaGreatDoor
