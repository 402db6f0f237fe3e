import Derived.Test.YtengibnpebfblaaGreatDoorQ0
import Derived.Test.YtengibnpebfblaaGreatDoorQ3
set_option maxRecDepth 1000000
set_option maxHeartbeats 8000000
set_option linter.unusedSimpArgs false
namespace Go.Proofs.YtengibnpebfblaaGreatDoor
open Go.RowKit
def bZ (S:Nat->Prop) (W:World) (s:Nat) (v:Value) (cs:List Value) (n:Nat):Prop:=
 ∃(a:Option Addr) (cap:Nat),v=.slice a n cap/\n<=cap/\cs.length=n*s/\((a=none/\cap=0)\/∃g o,a=some ⟨g,o,none⟩/\S g/\g<W.heap.size/\∀(j:Nat) (u:Value),cs[j]? =some u->W.cell? ⟨g,o+j,none⟩=some u)
def dP (S:Nat->Prop) (W:World) (T:TypeId) (s:Nat) (v:Value) (cs:List Value) (n:Nat):Prop:=
 cs.length=n*s/\((n=0/\v=.slice none 0 0)\/(0<n/\∃(g c:Nat) (cur:Array Value) (fr:Nat×Nat),v=.slice (some ⟨g,0,none⟩) n c/\n<=c/\S g/\W.heap[g]? =some (.cells cur T fr)/\∀(j:Nat) (u:Value),cs[j]? =some u->cur[j]? =some u))
section
variable {S S' : Nat → Prop} {W W' : World} {T : TypeId} {s n n₀ : Nat} {v : Value} {cs : List Value}
theorem bZ.weak (h:bZ S W s v cs n) (hs:∀g,S g->S' g):bZ S' W s v cs n:=by
 obtain⟨a,cap,h1,h2,h3,h4⟩:=h;refine⟨a,cap,h1,h2,h3,h4.imp_right ?_⟩;rintro⟨g,o,e,hS,h⟩;exact⟨g,o,e,hs g hS,h⟩
theorem bZ.old (h:bZ S W s v cs n):bZ (fun g=>S g/\g<W.heap.size) W s v cs n:=by
 obtain⟨a,cap,h1,h2,h3,h4⟩:=h;refine⟨a,cap,h1,h2,h3,h4.imp_right ?_⟩;rintro⟨g,o,e,hS,hg,h⟩;exact⟨g,o,e,⟨hS,hg⟩,hg,h⟩
theorem bZ.kept {row:Option Nat} (h:bZ S W s v cs n) (hg:W.grownBy W' row) (hr:∀X,row=some X->¬S X):bZ S W' s v cs n:=by
 obtain⟨a,cap,h1,h2,h3,h4⟩:=h;refine⟨a,cap,h1,h2,h3,h4.imp_right ?_⟩;rintro⟨g,o,e,hS,hlt,h⟩;have hb:=hg.block g hlt (fun e=>hr g e.symm hS);exact⟨g,o,e,hS,cQ hlt hg.size,fun j u hu=>(World.cell?_of_block (a:=⟨g,o+j,none⟩) hb).trans (h j u hu)⟩
theorem bZ.later (h:bZ S W s v cs n) (hb:Below W.heap.size W W'):bZ S W' s v cs n:=
 h.kept (row:=none) ⟨hb.os,hb.tape,hb.output,hb.size,fun k hk _=>hb.block k hk⟩ (fun _ e=>by cases e)
theorem bZ.len (h:bZ S W s v cs n):cs.length=n*s:=by obtain⟨_,_,_,_,h,_⟩:=h;exact h
theorem bZ.shape (h:bZ S W s v cs n):∃a c,v=.slice a n c/\n<=c:=by obtain⟨a,c,h1,h2,_⟩:=h;exact⟨a,c,h1,h2⟩
theorem bZ.pos (h:bZ S W s v cs n) (h0:0<n):∃g o c,v=.slice (some ⟨g,o,none⟩) n c/\n<=c/\S g/\g<W.heap.size/\∀(j:Nat) (u:Value),cs[j]? =some u->W.cell? ⟨g,o+j,none⟩=some u:=by
 obtain⟨a,c,rfl,h2,h3,h4⟩:=h;rcases h4 with⟨rfl,rfl⟩|⟨g,o,rfl,h⟩
 ·omega
 ·exact⟨g,o,c,rfl,h2,h⟩
theorem dP.weak (h:dP S W T s v cs n) (hs:∀g,S g->S' g):dP S' W T s v cs n:=by
 obtain⟨h0,h⟩:=h;refine⟨h0,h.imp_right ?_⟩;rintro⟨h1,g,c,cur,fr,h2,h3,hS,h4⟩;exact⟨h1,g,c,cur,fr,h2,h3,hs g hS,h4⟩
theorem dP.old (h:dP S W T s v cs n):dP (fun g=>S g/\g<W.heap.size) W T s v cs n:=by
 obtain⟨h0,h⟩:=h;refine⟨h0,h.imp_right ?_⟩;rintro⟨h1,g,c,cur,fr,h2,h3,hS,h4,h5⟩;exact⟨h1,g,c,cur,fr,h2,h3,⟨hS,(gZ h4)⟩,h4,h5⟩
theorem dP.kept {row:Option Nat} (h:dP S W T s v cs n) (hg:W.grownBy W' row) (hr:∀X,row=some X->¬S X):dP S W' T s v cs n:=by
 obtain⟨h0,h⟩:=h;refine⟨h0,h.imp_right ?_⟩;rintro⟨h1,g,c,cur,fr,h2,h3,hS,h4,h5⟩;exact⟨h1,g,c,cur,fr,h2,h3,hS,(hg.block g (gZ h4) (fun e=>hr g e.symm hS)).trans h4,h5⟩
theorem dP.keptT {row:Option Nat} (h:dP S W T s v cs n) (hg:W.grownBy W' row) (hT:∀X,row=some X->∃o:Obj,W.heap[X]? =some o/\∀cs fr,o≠.cells cs T fr):dP S W' T s v cs n:=by
 obtain⟨h0,h⟩:=h;refine⟨h0,h.imp_right ?_⟩;rintro⟨h1,g,c,cur,fr,h2,h3,hS,h4,h5⟩;refine⟨h1,g,c,cur,fr,h2,h3,hS,(hg.block g (gZ h4) (fun e=> ?_)).trans h4,h5⟩;exact Aj0
theorem dP.later (h:dP S W T s v cs n) (hb:Below W.heap.size W W'):dP S W' T s v cs n:=
 h.kept (row:=none) ⟨hb.os,hb.tape,hb.output,hb.size,fun k hk _=>hb.block k hk⟩ (fun _ e=>by cases e)
theorem dP.low (h:dP (fun g=>g<n₀) W T s v cs n) (hb:Below n₀ W W'):dP (fun g=>g<n₀) W' T s v cs n:=by
 obtain⟨h0,h⟩:=h;refine⟨h0,h.imp_right ?_⟩;rintro⟨h1,g,c,cur,fr,h2,h3,hS,h4,h5⟩;exact⟨h1,g,c,cur,fr,h2,h3,hS,(hb.block g hS).trans h4,h5⟩
theorem dP.shape (h:dP S W T s v cs n):∃a c,v=.slice a n c/\n<=c:=by
 rcases h with⟨_,⟨rfl,rfl⟩|⟨_,g,c,_,_,rfl,h,_⟩⟩
 ·exact⟨_,0,rfl,aE _⟩
 ·exact⟨_,c,rfl,h⟩
theorem dP.pos (h:dP S W T s v cs n) (h0:0<n):∃(g c:Nat) (cur:Array Value) (fr:Nat×Nat),v=.slice (some ⟨g,0,none⟩) n c/\n<=c/\S g/\W.heap[g]? =some (.cells cur T fr)/\∀(j:Nat) (u:Value),cs[j]? =some u->cur[j]? =some u:=by
 rcases h with⟨_,⟨rfl,_⟩|⟨_,h⟩⟩
 ·omega
 ·exact h
theorem dP.cut (h:dP S W T s v cs n):bZ S W s v cs n:=by
 obtain⟨hl,⟨rfl,rfl⟩|⟨h0,g,c,cur,fr,rfl,h2,hS,h4,h5⟩⟩:=h
 ·exact⟨_,0,rfl,aE _,hl,.inl ⟨rfl,rfl⟩⟩
 ·refine⟨_,c,rfl,h2,hl,.inr ⟨g,0,rfl,hS,(gZ h4),fun j u hu=> ?_⟩⟩
  rw[dL];exact aK h4 (h5 j u hu)
theorem bZ.places (h:bZ S W s v cs n):kU W s v (fun j=>cs.getD j undef) n:=by
 obtain⟨a,cap,rfl,h2,h3,h4⟩:=h;refine⟨a,cap,rfl,fun h0=> ?_⟩;rcases h4 with⟨rfl,rfl⟩|⟨g,o,rfl,_,_,h5⟩
 ·omega
 ·refine⟨_,rfl,fun j hj=> ?_⟩
  rw[qQ];refine h5 j _ ?_;show cs[j]? =some (cs.getD j undef);exact Ak3
theorem aBg {a:Option Addr} {cap lo hi:Nat} (h:bZ S W s (.slice a n cap) cs n) (h1:lo<=hi) (h2:hi<=n):bZ S W s (sliced a lo hi cap s) ((cs.take (hi*s)).drop (lo*s)) (hi-lo):=by
 obtain⟨a',cap',e,h3,h4,h5⟩:=h;simp only[dR,aAz]at e;obtain⟨rfl,rfl⟩:=e;have hl:((cs.take (hi*s)).drop (lo*s)).length=(hi-lo)*s:=by
  rw[bS,aV,h4,Nat.sub_mul,gA (dE _ h2)]
 refine⟨_,_,rfl,by omega,hl,?_⟩;rcases h5 with⟨rfl,rfl⟩|⟨g,o,rfl,hS,hlt,h6⟩
 ·exact .inl ⟨by split<;>rfl,by omega⟩
 ·refine .inr ?_
  by_cases e:cap=lo
  ·rw[if_pos e]
   refine⟨g,o,rfl,hS,hlt,fun j u hu=> ?_⟩;have:=(List.getElem?_eq_some_iff.1 hu).1;rw[hl,show hi-lo=0 by omega]at this;simp at this
  ·rw[if_neg e]
   refine⟨g,o+lo*s,by simp[qQ],hS,hlt,fun j u hu=> ?_⟩;rw[tZ];refine h6 _ _ ?_;rw[List.getElem?_drop,List.getElem?_take]at hu;split at hu
   ·exact hu
   ·cases hu
end
section
variable {P : Program} {S : Nat → Prop} {W : World} {s n : Nat} {v : Value} {cs : List Value}
theorem aC3 (t:TypeId) (ht:P.underlying t=some (.slice (P.elem t))) (hs:∀w,(sizeOf (P.elem t)).run P w=.ok s w) (h:bZ S W s v cs n) {hi:Nat} (h2:hi<=n):
  ∃a c,bZ S W s (.slice a hi c) (cs.take (hi*s)) hi/\∀w,(Instr.slice t v none (some (.int .i64 (hi:Int))) none).run P w=.ok (.slice a hi c) w:=by
 obtain⟨a,c,rfl,hc⟩:=h.shape;have:=aBg h (aQ _) h2;rw[Nat.zero_mul,rM]at this;refine⟨_,_,this,fun w=> ?_⟩;rw[run_slice_h w t a n c ht _ _ uAu uAu,hs];simp only[cS,lC];rfl
theorem uW (t:TypeId) (ht:P.underlying t=some (.slice (P.elem t))) (hs:∀w,(sizeOf (P.elem t)).run P w=.ok s w) (h:bZ S W s v cs n) {lo:Nat} (h2:lo<=n):
  ∃a c,bZ S W s (.slice a (n-lo) c) (cs.drop (lo*s)) (n-lo)/\∀w,(Instr.slice t v (some (.int .i64 (lo:Int))) none none).run P w=.ok (.slice a (n-lo) c) w:=by
 obtain⟨a,c,rfl,hc⟩:=h.shape;have:=aBg h h2 (aE _);rw[aZ (by rw[h.len];exact aE _)]at this;refine⟨_,_,this,fun w=> ?_⟩;rw[run_slice_l w t a n c ht _ _ uAu uAu,hs];simp only[cS,lC];rfl
theorem oT {w:World} {base:Nat} {e:TypeId} (h:w.ownsRow base e s v n cs):bZ (fun g=>base<=g) w s v cs n:=by
 have h':=h;obtain⟨hl,⟨rfl,rfl⟩|⟨g,cap,cur,rfl,hb,hg,hc,_⟩⟩:=h
 ·exact⟨_,0,rfl,aE _,hl,.inl ⟨rfl,rfl⟩⟩
 ·refine⟨_,cap,rfl,hc,hl,.inr ⟨g,0,rfl,hb,(gZ hg),fun j u hu=> ?_⟩⟩
  have:=h'.cells (g:=g) rfl j u hu;rwa[qQ]at this
theorem uN {w:World} {base:Nat} {e:TypeId} (h:w.ownsRow base e s v n cs):∀k,v.ownBlock=some k->base<=k:=fun k hk=>(h.lt k hk).1
theorem qF {w:World} (base:Nat) (t ty e:TypeId) (i:TypeInfo) (z:Value) (bytes:Nat) (ht:P.underlying t=some (.slice e)) (hi:P.info? e=some i) (hz:i.zero=some z)
  (hsize:i.size=s) (hby:i.bytes=bytes) (hzs:z.cells.size=s) (hsz:0<s) {vo:Value} {m:Nat} {xs:List Value} (hown:w.ownsRow base e s vo m xs) (hc:bZ S w s v cs n) (h1:∀u∈cs,u.oneCell'=true)
  (h63:m+n<=maxLen) (hbytes:(m+n)*bytes<=140737488355328) (hbase:base<=w.heap.size):
  ∃v' w',(Builtin.append_ #[t,t] ty #[vo,v]).run P w=.ok v' w'/\w'.ownsRow base e s v' (m+n) (xs++cs)/\w.grownBy w' vo.ownBlock:=by
 obtain⟨a,cap,rfl,h2,h3,h4⟩:=hc;rcases h4 with⟨rfl,rfl⟩|⟨g,o,rfl,hS,hlt,h5⟩
 ·obtain rfl:n=0:=by omega
  obtain rfl:cs=[]:=aT uRx;exact⟨vo,w,run_append_owned_none w base t ty e i s ht hi vo m xs hown,by simpa using hown,⟨rfl,rfl,rfl,aE _,fun _ _ _=>rfl⟩⟩
 ·obtain⟨v',w',r1,r2,r3,_⟩:=run_append_own w base t ty e i z s bytes ht hi hz hsize hby hzs hsz vo m xs hown ⟨g,o,none⟩ n cap cs h3 (fun j u hu=>by rw[qQ];exact h5 j u hu) h1 h63 hbytes hbase
  exact⟨v',w',r1,r2,r3⟩
theorem nC {ops:Array Oper} {rest:List Oper} {o:Oper} {a:Act} {Q:Exit->Act->World->Prop} {w:World} (hgd:o.guard=none) (p x:Operand) (t:TypeId)
  (ho:o.op=.call {callee:=.builtin .append,args:=#[p,x],argTypes:=#[t,t]}) (base:Nat) (e:TypeId) (i:TypeInfo) (z:Value) (bytes:Nat) (ht:P.underlying t=some (.slice e)) (hi:P.info? e=some i) (hz:i.zero=some z)
  (hsize:i.size=s) (hby:i.bytes=bytes) (hzs:z.cells.size=s) (hsz:0<s) {vo:Value} {m:Nat} {xs:List Value} (hp:a.eval p=vo) (hown:w.ownsRow base e s vo m xs) (hx:a.eval x=v) (hc:bZ S w s v cs n) (h1:∀u∈cs,u.oneCell'=true)
  (h63:m+n<=maxLen) (hbytes:(m+n)*bytes<=140737488355328) (hbase:base<=w.heap.size)
  (h:∀v' w',w'.ownsRow base e s v' (m+n) (xs++cs)->w.grownBy w' vo.ownBlock->wpList P ops Q rest (a.put o.dst v') w'):wpList P ops Q (o::rest) a w:=by
 obtain⟨v',w',r1,r2,r3⟩:=qF (P:=P) (w:=w) base t o.type e i z bytes ht hi hz hsize hby hzs hsz hown hc h1 h63 hbytes hbase;refine cW hgd fun K hK=> ?_
 unfold Oper.wp execOp;simp only[ho,resolve,invoke,builtin,fF,fR,cS,iA,cG,iL,hp,hx,r1];exact hK _ _ (h v' w' r2 r3)
end
def en {α:Type} (enc:α->List Value) (xs:List α):List Value:=xs.flatMap enc
section
variable {α : Type} {enc : α → List Value} {s : Nat}
theorem oA (henc:∀x,(enc x).length=s):∀xs:List α,(en enc xs).length=xs.length*s
 |[]=>by simp[en]
 |x::xs=>by
  have:=oA henc xs;unfold en at this ⊢;rw[cN,aD,this,henc,aL,gW];omega
theorem aC0 (xs ys:List α):en enc (xs++ys)=en enc xs++en enc ys:=by simp[en]
theorem zF (henc:∀x,(enc x).length=s) (xs:List α) (k:Nat):(en enc xs).take (k*s)=en enc (xs.take k):=by
 rcases cZ xs.length k with h|h
 ·rw[aZ (by rw[oA henc];exact dE _ uAu),aZ uAu]
 ·have e:=jB k xs
  have hl:(en enc (xs.take k)).length=k*s:=by rw[oA henc,aV,gA h]
  rw[<-e,aC0,mL uAu,aZ uAu,e]
theorem tS (henc:∀x,(enc x).length=s) (xs:List α) (k:Nat):(en enc xs).drop (k*s)=en enc (xs.drop k):=by
 rcases cZ xs.length k with h|h
 ·rw[eD (by rw[oA henc];exact dE _ uAu),eD uAu];rfl
 ·have e:=jB k xs
  have hl:(en enc (xs.take k)).length=k*s:=by rw[oA henc,aV,gA h]
  rw[<-e,aC0,aAI,eD uAu,hl,aB0,e];rfl
theorem xR (hone:∀x,∀u∈enc x,u.oneCell'=true) (xs:List α):∀u∈en enc xs,u.oneCell'=true:=by
 intro u hu;obtain⟨x,_,hx⟩:=aJE.1 hu;exact hone x u hx
theorem aBZ (henc:∀x,(enc x).length=s):∀(xs:List α) (i k:Nat) (x:α),xs[i]? =some x->k<s->(en enc xs)[i*s+k]? =(enc x)[k]?
 |[],_,_,_,h,_=>by simp at h
 |a::xs,0,k,x,h,hk=>by
  simp at h;subst h;unfold en;rw[cN,List.getElem?_append_left (by rw[henc];omega)];simp
 |a::xs,i+1,k,x,h,hk=>by
  have:=aBZ henc xs i k x uDw hk;unfold en at this ⊢;rw[cN,List.getElem?_append_right (by rw[henc,gW];omega),henc,show(i+1)*s+k-s=i*s+k by rw[gW];omega];exact this
def eZ (ls:List (Value×List α)) (k:Nat):List α:=(ls.take k).flatMap (·.2)
theorem oB {ls:List (Value×List α)} {k:Nat} (hk:k<ls.length):eZ ls (k+1)=eZ ls k++ls[k].2:=by
 unfold eZ;rw[aS hk,gF];simp
theorem tV {ls:List (Value×List α)}:∀{j:Nat} (k:Nat),k<=j->j<=ls.length->(eZ ls k).length<=(eZ ls j).length
  |0,k,hk,_=>by obtain rfl:k=0:=uAu;exact aE _
  |j+1,k,hk,hj=>by
   by_cases e:k=j+1
   ·subst e;exact aE _
   ·have:=tV (ls:=ls) (j:=j) k uAu uAu
    rw[oB uAu,aD];omega
end
def iY {α:Type}:Nat->List α->List (List α)
 |0,_=>[]
 |c+1,xs=>xs.take (xs.length/(c+1))::iY c (xs.drop (xs.length/(c+1)))
theorem aC7 {α:Type}:∀(c:Nat) (xs:List α),(iY c xs).length=c
 |0,_=>rfl
 |c+1,xs=>by simp[iY,aC7 c]
theorem aAw {α:Type}:∀(c:Nat) (xs:List α),(c=0->xs=[])->(iY c xs).flatten=xs
 |0,xs,h=>by rw[h rfl];rfl
 |c+1,xs,_=>by
  rw[iY,rL,aAw c _ (fun h=> ?_),jB];subst h;simp
theorem qK {b N c:Nat} (h:b*(c+1)<=N):b<=N/(c+1)/\b*c<=N-N/(c+1):=by
 have h1:b<=N/(c+1):=(Nat.le_div_iff_mul_le uAu).2 h;refine⟨h1,?_⟩;have h2:N/(c+1)*(c+1)<=N:=Nat.div_mul_le_self _ _;have h3:b*c<=N/(c+1)*c:=dE _ h1;rw[Nat.mul_add,nT]at h2;omega
theorem aG6 {B N c:Nat} (h:N<=B*(c+1)):N/(c+1)<=B/\N-N/(c+1)<=B*c:=by
 have h1:N/(c+1)<=B:=by
  have:=Nat.div_le_div_right (c:=c+1) h;rwa[Nat.mul_div_cancel _ uAu]at this
 refine⟨h1,?_⟩;have h2:N<(N/(c+1)+1)*(c+1):=by
  have:=Nat.lt_div_mul_add (a:=N) (b:=c+1) uAu;rw[gW,Nat.one_mul];exact this
 rcases cZ (N/(c+1)) B with h3|h3
 ·have h4:(N/(c+1)+1)*c<=B*c:=dE _ h3
  rw[Nat.mul_add,nT]at h2;omega
 ·have e:N/(c+1)=B:=by omega
  rw[e];rw[Nat.mul_add,nT]at h;omega
theorem xT {α:Type} {b B:Nat}:∀(c:Nat) (xs:List α),b*c<=xs.length->xs.length<=B*c->∀ys∈iY c xs,b<=ys.length/\ys.length<=B
 |0,_,_,_,_,h=>by cases h
 |c+1,xs,h1,h2,ys,h=>by
  have s1:=qK h1;have s2:=aG6 h2;have hle:xs.length/(c+1)<=xs.length:=uF _ _;rcases bA.1 h with rfl|h
  ·rw[aV]
   omega
  ·exact xT c _ (by rw[bS];exact s1.2) (by rw[bS];exact s2.2) ys h
def kI (N:Nat):Nat:=(N+15)/16
theorem uX {α:Type} (xs:List α):∀ys∈iY (kI xs.length) xs,1<=ys.length/\ys.length<=16/\(2<=kI xs.length->8<=ys.length):=by
 intro ys hy;have h1:=xT (b:=1) (B:=16) _ xs (by unfold kI;omega) (by unfold kI;omega) ys hy;refine⟨h1.1,h1.2,fun h2=> ?_⟩;exact(xT (b:=8) (B:=16) _ xs (by unfold kI at h2 ⊢;omega) (by unfold kI;omega) ys hy).1
theorem aHc {α:Type} (xs:List α) (h:kI xs.length=1):iY (kI xs.length) xs=[xs]:=by
 rw[h];simp[iY]
end Go.Proofs.YtengibnpebfblaaGreatDoor
