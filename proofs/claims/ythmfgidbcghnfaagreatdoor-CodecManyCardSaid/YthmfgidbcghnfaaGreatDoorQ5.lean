import Derived.Test.YthmfgidbcghnfaaGreatDoorQ0
import Derived.Test.YthmfgidbcghnfaaGreatDoorQ3
import Derived.Test.YthmfgidbcghnfaaGreatDoorQ4
set_option maxRecDepth 1000000
set_option maxHeartbeats 8000000
set_option linter.unusedSimpArgs false
namespace Go.Proofs.YthmfgidbcghnfaaGreatDoor
open Go.RowKit
def bY (S:Nat->Prop) (W:World) (s:Nat) (v:Value) (cs:List Value) (n:Nat):Prop:=
 ∃(a:Option Addr) (cap:Nat),v=.slice a n cap/\n<=cap/\cs.length=n*s/\((a=none/\cap=0)\/∃g o,a=some ⟨g,o,none⟩/\S g/\g<W.heap.size/\∀(j:Nat) (u:Value),cs[j]? =some u->W.cell? ⟨g,o+j,none⟩=some u)
def dE (S:Nat->Prop) (W:World) (T:TypeId) (s:Nat) (v:Value) (cs:List Value) (n:Nat):Prop:=
 cs.length=n*s/\((n=0/\v=.slice none 0 0)\/(0<n/\∃(g c:Nat) (aj:Array Value) (fr:Nat×Nat),v=.slice (some ⟨g,0,none⟩) n c/\n<=c/\S g/\W.heap[g]? =some (.cells aj T fr)/\∀(j:Nat) (u:Value),cs[j]? =some u->aj[j]? =some u))
section
variable {S S' : Nat → Prop} {W W' : World} {T : TypeId} {s n n₀ : Nat} {v : Value} {cs : List Value}
theorem bY.weak (h:bY S W s v cs n) (hs:∀g,S g->S' g):bY S' W s v cs n:=by
 obtain⟨a,cap,h1,h2,h3,h4⟩:=h;refine⟨a,cap,h1,h2,h3,h4.imp_right ?_⟩;rintro⟨g,o,e,hS,h⟩;exact⟨g,o,e,hs g hS,h⟩
theorem bY.old (h:bY S W s v cs n):bY (fun g=>S g/\g<W.heap.size) W s v cs n:=by
 obtain⟨a,cap,h1,h2,h3,h4⟩:=h;refine⟨a,cap,h1,h2,h3,h4.imp_right ?_⟩;rintro⟨g,o,e,hS,hg,h⟩;exact⟨g,o,e,⟨hS,hg⟩,hg,h⟩
theorem bY.kept {row:Option Nat} (h:bY S W s v cs n) (hg:W.grownBy W' row) (hr:∀X,row=some X->¬S X):bY S W' s v cs n:=by
 obtain⟨a,cap,h1,h2,h3,h4⟩:=h;refine⟨a,cap,h1,h2,h3,h4.imp_right ?_⟩;rintro⟨g,o,e,hS,hlt,h⟩;have hb:=hg.block g hlt (fun e=>hr g e.symm hS);exact⟨g,o,e,hS,bK hlt hg.size,fun j u hu=>(World.cell?_of_block (a:=⟨g,o+j,none⟩) hb).trans (h j u hu)⟩
theorem bY.later (h:bY S W s v cs n) (hb:Below W.heap.size W W'):bY S W' s v cs n:=
 h.kept (row:=none) ⟨hb.os,hb.tape,hb.output,hb.size,fun k hk _=>hb.block k hk⟩ (fun _ e=>by cases e)
theorem bY.len (h:bY S W s v cs n):cs.length=n*s:=by obtain⟨_,_,_,_,h,_⟩:=h;exact h
theorem bY.shape (h:bY S W s v cs n):∃a c,v=.slice a n c/\n<=c:=by obtain⟨a,c,h1,h2,_⟩:=h;exact⟨a,c,h1,h2⟩
theorem bY.pos (h:bY S W s v cs n) (h0:0<n):∃g o c,v=.slice (some ⟨g,o,none⟩) n c/\n<=c/\S g/\g<W.heap.size/\∀(j:Nat) (u:Value),cs[j]? =some u->W.cell? ⟨g,o+j,none⟩=some u:=by
 obtain⟨a,c,rfl,h2,h3,h4⟩:=h;rcases h4 with⟨rfl,rfl⟩|⟨g,o,rfl,h⟩
 ·omega
 ·exact⟨g,o,c,rfl,h2,h⟩
theorem dE.weak (h:dE S W T s v cs n) (hs:∀g,S g->S' g):dE S' W T s v cs n:=by
 obtain⟨h0,h⟩:=h;refine⟨h0,h.imp_right ?_⟩;rintro⟨h1,g,c,aj,fr,h2,h3,hS,h4⟩;exact⟨h1,g,c,aj,fr,h2,h3,hs g hS,h4⟩
theorem dE.old (h:dE S W T s v cs n):dE (fun g=>S g/\g<W.heap.size) W T s v cs n:=by
 obtain⟨h0,h⟩:=h;refine⟨h0,h.imp_right ?_⟩;rintro⟨h1,g,c,aj,fr,h2,h3,hS,h4,h5⟩;exact⟨h1,g,c,aj,fr,h2,h3,⟨hS,(gZ h4)⟩,h4,h5⟩
theorem dE.kept {row:Option Nat} (h:dE S W T s v cs n) (hg:W.grownBy W' row) (hr:∀X,row=some X->¬S X):dE S W' T s v cs n:=by
 obtain⟨h0,h⟩:=h;refine⟨h0,h.imp_right ?_⟩;rintro⟨h1,g,c,aj,fr,h2,h3,hS,h4,h5⟩;exact⟨h1,g,c,aj,fr,h2,h3,hS,(hg.block g (gZ h4) (fun e=>hr g e.symm hS)).trans h4,h5⟩
theorem dE.keptT {row:Option Nat} (h:dE S W T s v cs n) (hg:W.grownBy W' row) (hT:∀X,row=some X->∃o:Obj,W.heap[X]? =some o/\∀cs fr,o≠.cells cs T fr):dE S W' T s v cs n:=by
 obtain⟨h0,h⟩:=h;refine⟨h0,h.imp_right ?_⟩;rintro⟨h1,g,c,aj,fr,h2,h3,hS,h4,h5⟩;refine⟨h1,g,c,aj,fr,h2,h3,hS,(hg.block g (gZ h4) (fun e=> ?_)).trans h4,h5⟩;exact Ak4
theorem dE.later (h:dE S W T s v cs n) (hb:Below W.heap.size W W'):dE S W' T s v cs n:=
 h.kept (row:=none) ⟨hb.os,hb.tape,hb.output,hb.size,fun k hk _=>hb.block k hk⟩ (fun _ e=>by cases e)
theorem dE.low (h:dE (fun g=>g<n₀) W T s v cs n) (hb:Below n₀ W W'):dE (fun g=>g<n₀) W' T s v cs n:=by
 obtain⟨h0,h⟩:=h;refine⟨h0,h.imp_right ?_⟩;rintro⟨h1,g,c,aj,fr,h2,h3,hS,h4,h5⟩;exact⟨h1,g,c,aj,fr,h2,h3,hS,(hb.block g hS).trans h4,h5⟩
theorem dE.shape (h:dE S W T s v cs n):∃a c,v=.slice a n c/\n<=c:=by
 rcases h with⟨_,⟨rfl,rfl⟩|⟨_,g,c,_,_,rfl,h,_⟩⟩
 ·exact⟨_,0,rfl,aA _⟩
 ·exact⟨_,c,rfl,h⟩
theorem dE.pos (h:dE S W T s v cs n) (h0:0<n):∃(g c:Nat) (aj:Array Value) (fr:Nat×Nat),v=.slice (some ⟨g,0,none⟩) n c/\n<=c/\S g/\W.heap[g]? =some (.cells aj T fr)/\∀(j:Nat) (u:Value),cs[j]? =some u->aj[j]? =some u:=by
 rcases h with⟨_,⟨rfl,_⟩|⟨_,h⟩⟩
 ·omega
 ·exact h
theorem dE.cut (h:dE S W T s v cs n):bY S W s v cs n:=by
 obtain⟨hl,⟨rfl,rfl⟩|⟨h0,g,c,aj,fr,rfl,h2,hS,h4,h5⟩⟩:=h
 ·exact⟨_,0,rfl,aA _,hl,.inl ⟨rfl,rfl⟩⟩
 ·refine⟨_,c,rfl,h2,hl,.inr ⟨g,0,rfl,hS,(gZ h4),fun j u hu=> ?_⟩⟩
  rw[eA];exact aG h4 (h5 j u hu)
theorem bY.places (h:bY S W s v cs n):lV W s v (fun j=>cs.getD j undef) n:=by
 obtain⟨a,cap,rfl,h2,h3,h4⟩:=h;refine⟨a,cap,rfl,fun h0=> ?_⟩;rcases h4 with⟨rfl,rfl⟩|⟨g,o,rfl,_,_,h5⟩
 ·omega
 ·refine⟨_,rfl,fun j hj=> ?_⟩
  rw[rE];refine h5 j _ ?_;show cs[j]? =some (cs.getD j undef);rw[List.getD_eq_getElem?_getD,List.getElem?_eq_getElem hO];rfl
theorem aC0 {a:Option Addr} {cap lo hi:Nat} (h:bY S W s (.slice a n cap) cs n) (h1:lo<=hi) (h2:hi<=n):bY S W s (sliced a lo hi cap s) ((cs.take (hi*s)).drop (lo*s)) (hi-lo):=by
 obtain⟨a',qu,e,h3,h4,h5⟩:=h;simp only[eJ,yA]at e;obtain⟨rfl,rfl⟩:=e;have hl:((cs.take (hi*s)).drop (lo*s)).length=(hi-lo)*s:=by
  rw[cG,bQ,h4,Nat.sub_mul,fT (cS _ h2)]
 refine⟨_,_,rfl,by omega,hl,?_⟩;rcases h5 with⟨rfl,rfl⟩|⟨g,o,rfl,hS,hlt,h6⟩
 ·exact .inl ⟨by split<;>rfl,by omega⟩
 ·refine .inr ?_
  by_cases e:cap=lo
  ·rw[if_pos e]
   refine⟨g,o,rfl,hS,hlt,fun j u hu=> ?_⟩;have:=(List.getElem?_eq_some_iff.1 hu).1;rw[hl,show hi-lo=0 by omega]at this;simp at this
  ·rw[if_neg e]
   refine⟨g,o+lo*s,by simp[rE],hS,hlt,fun j u hu=> ?_⟩;rw[aA8];refine h6 _ _ ?_;rw[List.getElem?_drop,List.getElem?_take]at hu;split at hu
   ·exact hu
   ·cases hu
end
section
variable {P : Program} {S : Nat → Prop} {W : World} {s n : Nat} {v : Value} {cs : List Value}
theorem aKX (t:TypeId) (ht:P.underlying t=some (.slice (P.elem t))) (hs:∀w,(sizeOf (P.elem t)).run P w=.ok s w) (h:bY S W s v cs n) {hi:Nat} (h2:hi<=n):
  ∃a c,bY S W s (.slice a hi c) (cs.take (hi*s)) hi/\∀w,(Instr.slice t v none (some (.int .i64 (hi:Int))) none).run P w=.ok (.slice a hi c) w:=by
 obtain⟨a,c,rfl,hc⟩:=h.shape;have:=aC0 h (aS _) h2;rw[Nat.zero_mul,rZ]at this;refine⟨_,_,this,fun w=> ?_⟩;rw[run_slice_h w t a n c ht _ _ hO hO,hs];simp only[cR,kM];rfl
theorem aD4 (t:TypeId) (ht:P.underlying t=some (.slice (P.elem t))) (hs:∀w,(sizeOf (P.elem t)).run P w=.ok s w) (h:bY S W s v cs n) {lo:Nat} (h2:lo<=n):
  ∃a c,bY S W s (.slice a (n-lo) c) (cs.drop (lo*s)) (n-lo)/\∀w,(Instr.slice t v (some (.int .i64 (lo:Int))) none none).run P w=.ok (.slice a (n-lo) c) w:=by
 obtain⟨a,c,rfl,hc⟩:=h.shape;have:=aC0 h h2 (aA _);rw[bC (by rw[h.len];exact aA _)]at this;refine⟨_,_,this,fun w=> ?_⟩;rw[run_slice_l w t a n c ht _ _ hO hO,hs];simp only[cR,kM];rfl
theorem pT {w:World} {base:Nat} {e:TypeId} (h:w.ownsRow base e s v n cs):bY (fun g=>base<=g) w s v cs n:=by
 have h':=h;obtain⟨hl,⟨rfl,rfl⟩|⟨g,cap,aj,rfl,hb,hg,hc,_⟩⟩:=h
 ·exact⟨_,0,rfl,aA _,hl,.inl ⟨rfl,rfl⟩⟩
 ·refine⟨_,cap,rfl,hc,hl,.inr ⟨g,0,rfl,hb,(gZ hg),fun j u hu=> ?_⟩⟩
  have:=h'.cells (g:=g) rfl j u hu;rwa[rE]at this
theorem vM {w:World} {base:Nat} {e:TypeId} (h:w.ownsRow base e s v n cs):∀k,v.ownBlock=some k->base<=k:=fun k hk=>(h.lt k hk).1
theorem vJ {w:World} (base:Nat) (t ty e:TypeId) (i:TypeInfo) (z:Value) (bytes:Nat) (ht:P.underlying t=some (.slice e)) (hi:P.info? e=some i) (hz:i.zero=some z)
  (qd:i.size=s) (zh:i.bytes=bytes) (mr:z.cells.size=s) (de:0<s) {vo:Value} {m:Nat} {xs:List Value} (di:w.ownsRow base e s vo m xs) (hc:bY S w s v cs n) (h1:∀u∈cs,u.oneCell'=true)
  (Ci:m+n<=maxLen) (eu:(m+n)*bytes<=140737488355328) (D8:base<=w.heap.size):
  ∃v' w',(Builtin.append_ #[t,t] ty #[vo,v]).run P w=.ok v' w'/\w'.ownsRow base e s v' (m+n) (xs++cs)/\w.grownBy w' vo.ownBlock:=by
 obtain⟨a,cap,rfl,h2,h3,h4⟩:=hc;rcases h4 with⟨rfl,rfl⟩|⟨g,o,rfl,hS,hlt,h5⟩
 ·obtain rfl:n=0:=by omega
  obtain rfl:cs=[]:=aQ uUx;exact⟨vo,w,run_append_owned_none w base t ty e i s ht hi vo m xs di,by simpa using di,⟨rfl,rfl,rfl,aA _,fun _ _ _=>rfl⟩⟩
 ·obtain⟨v',w',r1,r2,r3,_⟩:=run_append_own w base t ty e i z s bytes ht hi hz qd zh mr de vo m xs di ⟨g,o,none⟩ n cap cs h3 (fun j u hu=>by rw[rE];exact h5 j u hu) h1 Ci eu D8
  exact⟨v',w',r1,r2,r3⟩
theorem iP {ops:Array Oper} {rest:List Oper} {o:Oper} {a:Act} {Q:Exit->Act->World->Prop} {w:World} (fj:o.guard=none) (p x:Operand) (t:TypeId)
  (ho:o.op=.call {callee:=.builtin .append,args:=#[p,x],argTypes:=#[t,t]}) (base:Nat) (e:TypeId) (i:TypeInfo) (z:Value) (bytes:Nat) (ht:P.underlying t=some (.slice e)) (hi:P.info? e=some i) (hz:i.zero=some z)
  (qd:i.size=s) (zh:i.bytes=bytes) (mr:z.cells.size=s) (de:0<s) {vo:Value} {m:Nat} {xs:List Value} (hp:a.eval p=vo) (di:w.ownsRow base e s vo m xs) (hx:a.eval x=v) (hc:bY S w s v cs n) (h1:∀u∈cs,u.oneCell'=true)
  (Ci:m+n<=maxLen) (eu:(m+n)*bytes<=140737488355328) (D8:base<=w.heap.size)
  (h:∀v' w',w'.ownsRow base e s v' (m+n) (xs++cs)->w.grownBy w' vo.ownBlock->wpList P ops Q rest (a.put o.dst v') w'):wpList P ops Q (o::rest) a w:=by
 obtain⟨v',w',r1,r2,r3⟩:=vJ (P:=P) (w:=w) base t o.type e i z bytes ht hi hz qd zh mr de di hc h1 Ci eu D8;refine gC fj fun K hK=> ?_
 unfold Oper.wp execOp;simp only[ho,resolve,invoke,builtin,eG,eZ,cR,iE,cA,gY,hp,hx,r1];exact hK _ _ (h v' w' r2 r3)
end
def en {α:Type} (enc:α->List Value) (xs:List α):List Value:=xs.flatMap enc
section
variable {α : Type} {enc : α → List Value} {s : Nat}
theorem lQ (cf:∀x,(enc x).length=s):∀xs:List α,(en enc xs).length=xs.length*s
 |[]=>by simp[en]
 |x::xs=>by
  have:=lQ cf xs;unfold en at this ⊢;rw[cC,aB,this,cf,aD,fJ];omega
theorem aD0 (xs ys:List α):en enc (xs++ys)=en enc xs++en enc ys:=by simp[en]
theorem zS (cf:∀x,(enc x).length=s) (xs:List α) (k:Nat):(en enc xs).take (k*s)=en enc (xs.take k):=by
 rcases eB xs.length k with h|h
 ·rw[bC (by rw[lQ cf];exact cS _ hO),bC hO]
 ·have e:=eD k xs
  have hl:(en enc (xs.take k)).length=k*s:=by rw[lQ cf,bQ,fT h]
  rw[<-e,aD0,nM hO,bC hO,e]
theorem uE (cf:∀x,(enc x).length=s) (xs:List α) (k:Nat):(en enc xs).drop (k*s)=en enc (xs.drop k):=by
 rcases eB xs.length k with h|h
 ·rw[gM (by rw[lQ cf];exact cS _ hO),gM hO];rfl
 ·have e:=eD k xs
  have hl:(en enc (xs.take k)).length=k*s:=by rw[lQ cf,bQ,fT h]
  rw[<-e,aD0,aBc,gM hO,hl,aBF,e];rfl
theorem uD (bq:∀x,∀u∈enc x,u.oneCell'=true) (xs:List α):∀u∈en enc xs,u.oneCell'=true:=by
 intro u hu;obtain⟨x,_,hx⟩:=List.mem_flatMap.1 hu;exact bq x u hx
theorem zT (cf:∀x,(enc x).length=s):∀(xs:List α) (i k:Nat) (x:α),xs[i]? =some x->k<s->(en enc xs)[i*s+k]? =(enc x)[k]?
 |[],_,_,_,h,_=>by simp at h
 |a::xs,0,k,x,h,hk=>by
  simp at h;subst h;unfold en;rw[cC,List.getElem?_append_left (by rw[cf];omega)];simp
 |a::xs,i+1,k,x,h,hk=>by
  have:=zT cf xs i k x uDu hk;unfold en at this ⊢;rw[cC,List.getElem?_append_right (by rw[cf,fJ];omega),cf,show(i+1)*s+k-s=i*s+k by rw[fJ];omega];exact this
def fB (ls:List (Value×List α)) (k:Nat):List α:=(ls.take k).flatMap (·.2)
theorem pJ {ls:List (Value×List α)} {k:Nat} (hk:k<ls.length):fB ls (k+1)=fB ls k++ls[k].2:=by
 unfold fB;rw[bP hk,gN];simp
theorem uH {ls:List (Value×List α)}:∀{j:Nat} (k:Nat),k<=j->j<=ls.length->(fB ls k).length<=(fB ls j).length
  |0,k,hk,_=>by obtain rfl:k=0:=hO;exact aA _
  |j+1,k,hk,hj=>by
   by_cases e:k=j+1
   ·subst e;exact aA _
   ·have:=uH (ls:=ls) (j:=j) k hO hO
    rw[pJ hO,aB];omega
end
def jC {α:Type}:Nat->List α->List (List α)
 |0,_=>[]
 |c+1,xs=>xs.take (xs.length/(c+1))::jC c (xs.drop (xs.length/(c+1)))
theorem aD7 {α:Type}:∀(c:Nat) (xs:List α),(jC c xs).length=c
 |0,_=>rfl
 |c+1,xs=>by simp[jC,aD7 c]
theorem aB4 {α:Type}:∀(c:Nat) (xs:List α),(c=0->xs=[])->(jC c xs).flatten=xs
 |0,xs,h=>by rw[h rfl];rfl
 |c+1,xs,_=>by
  rw[jC,rX,aB4 c _ (fun h=> ?_),eD];subst h;simp
theorem rA {b N c:Nat} (h:b*(c+1)<=N):b<=N/(c+1)/\b*c<=N-N/(c+1):=by
 have h1:b<=N/(c+1):=(Nat.le_div_iff_mul_le hO).2 h;refine⟨h1,?_⟩;have h2:N/(c+1)*(c+1)<=N:=Nat.div_mul_le_self _ _;have h3:b*c<=N/(c+1)*c:=cS _ h1;rw[Nat.mul_add,nL]at h2;omega
theorem aIi {B N c:Nat} (h:N<=B*(c+1)):N/(c+1)<=B/\N-N/(c+1)<=B*c:=by
 have h1:N/(c+1)<=B:=by
  have:=Nat.div_le_div_right (c:=c+1) h;rwa[Nat.mul_div_cancel _ hO]at this
 refine⟨h1,?_⟩;have h2:N<(N/(c+1)+1)*(c+1):=by
  have:=Nat.lt_div_mul_add (a:=N) (b:=c+1) hO;rw[fJ,aFa];exact this
 rcases eB (N/(c+1)) B with h3|h3
 ·have h4:(N/(c+1)+1)*c<=B*c:=cS _ h3
  rw[Nat.mul_add,nL]at h2;omega
 ·have e:N/(c+1)=B:=by omega
  rw[e];rw[Nat.mul_add,nL]at h;omega
theorem yO {α:Type} {b B:Nat}:∀(c:Nat) (xs:List α),b*c<=xs.length->xs.length<=B*c->∀ys∈jC c xs,b<=ys.length/\ys.length<=B
 |0,_,_,_,_,h=>by cases h
 |c+1,xs,h1,h2,ys,h=>by
  have s1:=rA h1;have s2:=aIi h2;have dx:xs.length/(c+1)<=xs.length:=qN _ _;rcases bL.1 h with rfl|h
  ·rw[bQ]
   omega
  ·exact yO c _ (by rw[cG];exact s1.2) (by rw[cG];exact s2.2) ys h
def lJ (N:Nat):Nat:=(N+15)/16
theorem wH {α:Type} (xs:List α):∀ys∈jC (lJ xs.length) xs,1<=ys.length/\ys.length<=16/\(2<=lJ xs.length->8<=ys.length):=by
 intro ys hy;have h1:=yO (b:=1) (B:=16) _ xs (by unfold lJ;omega) (by unfold lJ;omega) ys hy;refine⟨h1.1,h1.2,fun h2=> ?_⟩;exact(yO (b:=8) (B:=16) _ xs (by unfold lJ at h2 ⊢;omega) (by unfold lJ;omega) ys hy).1
theorem aJI {α:Type} (xs:List α) (h:lJ xs.length=1):jC (lJ xs.length) xs=[xs]:=by
 rw[h];simp[jC]
end Go.Proofs.YthmfgidbcghnfaaGreatDoor
namespace Go.Proofs.YthmfgidbcghnfaaGreatDoor
open Go.RowKit Go.Shelf
attribute [local go_sem] fS
theorem qL {A B:World} {X:Nat} {t:TypeId} {v:Value} {row:Option Nat} (h:Boxed A X t v) (hg:A.grownBy B row) (hr:∀r,row=some r->∃o:Obj,A.heap[r]? =some o/\o.isCells=false):Boxed B X t v:=
 aGv (β:=Unit) X t (fun _=>v) () A B row h hg hr
theorem pS {A B:World} {k:Nat} {cs:Array Value} {T:TypeId} {fr:Nat×Nat} {row:Option Nat} (h:A.heap[k]? =some (.cells cs T fr)) (hg:A.grownBy B row) (hr:∀r,row=some r->∃o:Obj,A.heap[r]? =some o/\o.isCells=false):B.heap[k]? =some (.cells cs T fr):=by
 refine(hg.block _ (gZ h) fun e=> ?_).trans h;obtain⟨o,ho,hc⟩:=hr k e.symm;rw[h]at ho;cases ho
 cases hc
theorem aAZ {A B:World} (h:Below A.heap.size A B):KeepsOthers A B:=⟨h.size,fun k _ hk _=>(h.block k (gZ hk)).trans hk⟩
end Go.Proofs.YthmfgidbcghnfaaGreatDoor
namespace Go.Proofs.YthmfgidbcghnfaaGreatDoor
open Go.RowKit Go.Shelf
def pL (B:Nat) (v:Value) (l:List Int) (w:World):Prop:=w.ownsRow B 3 1 v l.length (iv l)/\B<=w.heap.size
section
variable {B : Nat} {v : Value} {l : List Int} {w w1 : World}
theorem pL.nil (h:B<=w.heap.size):pL B (.slice none 0 0) [] w:=⟨rW _ _ _ _,h⟩
theorem pL.lit (hB:B<=w.heap.size) (cs:Array Value) (l:List Int) (hc:cs.toList=iv l) (Ha:l.length<=4096):
  pL B (.slice (some ⟨w.heap.size,0,none⟩) l.length l.length) l (w.alloc (.cells cs 3)):=by
 have hl:l.length<=maxLen:=by unfold maxLen;omega
 have hs:cs.size=l.length*1:=by rw[<-bM,hc,aAv];omega
 refine⟨?_,by simp;omega⟩;have:=(oO (base:=B) (e:=3) (size:=1) w cs l.length hB hl hs)
 rwa[hc]at this
theorem pL.low {B':Nat} (h:pL B v l w) (hB:B'<=B):pL B' v l w:=by
 exact Ac7
theorem pL.grown {row:Option Nat} (h:pL B v l w) (hg:w.grownBy w1 row) (bn:v.ownBlock=none\/v.ownBlock≠row):pL B v l w1:=⟨h.1.kept hg bn,aI h.2 hg.size⟩
theorem pL.later (h:pL B v l w) (hb:Below w.heap.size w w1):pL B v l w1:=h.grown (row:=none) ⟨hb.os,hb.tape,hb.output,hb.size,fun k hk _=>hb.block k hk⟩ uGx
theorem pL.alloc (h:pL B v l w) (o:Obj):pL B v l (w.alloc o):=h.later ((bB _ _).alloc (aA _) o)
theorem pL.reads (h:pL B v l w) (hl:∀n∈l,-9223372036854775808<=n/\n<=9223372036854775807):yP w v l:=by
 obtain⟨hr,_⟩:=h;have o9:=hr;obtain⟨h1,h2⟩:=hr;rcases h2 with⟨rfl,h2⟩|⟨g,cap,aj,a1,a2,a3,a4,a5,a6,a7⟩
 ·exact Ag0
 ·exact Ac3
theorem pL.len (h:pL B v l w):∃a c,v=.slice a l.length c:=by
 exact Ad6
end
theorem pL.ints {B:Nat} {v:Value} {l:List Int} {w:World} (h:pL B v l w):mV B v l w:=⟨oP h.1,h.2⟩
theorem pL.pos {B:Nat} {v:Value} {l:List Int} {w:World} (h:pL B v l w) (h0:0<l.length):∃(g c:Nat) (cs:Array Value),v=.slice (some ⟨g,0,none⟩) l.length c/\l.length<=c/\B<=g/\w.heap[g]? =some (.cells cs 3 (0,0))/\l.length<=cs.size/\∀j,j<l.length->cs[j]? =some (.int .i64 (l.getD j 0)):=by
 obtain⟨⟨_,h2⟩,_⟩:=h;rcases h2 with⟨rfl,h3⟩|⟨g,cap,aj,rfl,hB,hg,h5,h6,h7,h8⟩
 ·omega
 ·refine⟨g,cap,aj,rfl,h5,hB,hg,by omega,fun j hj=> ?_⟩
  have hu:(iv l)[j]? =some (.int .i64 (l.getD j 0)):=by
   rw[iv,List.getElem?_map,List.getElem?_eq_getElem hj,List.getD_eq_getElem?_getD,List.getElem?_eq_getElem hj];rfl
  rw[<-h8,List.getElem?_take_of_lt hO,Array.getElem?_toList]at hu;exact hu
theorem pL.put {B:Nat} {v:Value} {l:List Int} {w w':World} (h:pL B v l w) {g c j:Nat} {cs:Array Value} {x:Int} (hv:v=.slice (some ⟨g,0,none⟩) l.length c) (hg:w.heap[g]? =some (.cells cs 3 (0,0)))
  (h':w'.heap[g]? =some (.cells (cs.setIfInBounds j (.int .i64 x)) 3 (0,0))) (k:iL g w w'):pL B v (l.set j x) w':=by
 obtain⟨⟨h1,h2⟩,h3⟩:=h;subst hv;rcases h2 with⟨e,_⟩|⟨g',cap,aj,e,hB,La,h5,h6,h7,h8⟩
 ·cases e
 ·simp only[eJ,bA,mE,rV,yA]at e
  obtain⟨rfl,rfl⟩:=e;rw[hg]at La;simp only[bA,dK,rV]at La;subst La;refine⟨⟨by rw[aAv];omega,.inr ⟨g,c,_,by rw[fD],hB,h',by rw[fD];exact h5,h6,by simpa using h7,?_⟩⟩,aI h3 k.by_.size⟩;rw[fD,Array.toList_setIfInBounds,List.take_set,h8];simp[iv]
end Go.Proofs.YthmfgidbcghnfaaGreatDoor
namespace Go.Proofs.YthmfgidbcghnfaaGreatDoor
open Go.RowKit
theorem aE0:∀a b:List UInt8,Lib.compareBytes a b=jA a b:=by
 intro a;induction a with
 |nil=>
  intro b;cases b<;>simp[Lib.compareBytes,jA]
 |cons x l ih=>
  intro b;cases b with
  |nil=>simp[Lib.compareBytes,jA]
  |cons y r=>
   simp only[Lib.compareBytes];by_cases h1:x<y
   ·have bn:¬x=y:=fun e=>by rw[e]at h1;exact absurd h1 (aDq _)
    rw[if_pos h1];unfold jA;rw[if_neg (by simp[bn]),if_pos (by rw[tI];exact .inl h1)]
   ·rw[if_neg h1]
    by_cases h2:y<x
    ·have bn:¬x=y:=fun e=>by rw[e]at h2;exact absurd h2 (aDq _)
     rw[if_pos h2];unfold jA;rw[if_neg (by simp[bn]),if_neg (by
      rw[tI];rintro(h|⟨h,_⟩)
      ·exact h1 h
      ·exact bn h)]
    ·rw[if_neg h2,ih]
     have e:x=y:=by
      rw[UInt8.lt_iff_toNat_lt]at h1 h2;exact gX.1 hO
     subst e;unfold jA;have e1:(x::l=x::r)↔l=r:=by simp
     have e2:(x::l<x::r)↔l<r:=by
      exact Ah6
     simp only[e1,e2]
theorem aKk (a b:ByteArray) (w:World):Calls Tryz.prog 168 #[.string a,.string b] w fun e w'=>e=.returned (.int .i64 (jA a.data.toList b.data.toList))/\w=w':=by
 have HC:=eU (fun w=>Tryz.strings_Compare a b w);rw[aE0]at HC;go_enter Tryz.func168,Tryz.ntmps168;go_wp2_with fail
 refine(HC.out _).mono ?_;exact Af5
end Go.Proofs.YthmfgidbcghnfaaGreatDoor
namespace Go.Proofs.YthmfgidbcghnfaaGreatDoor
open Go.RowKit Go.Shelf
def TK (T:TypeId) (A B:World):Prop:=∀(k:Nat) (cs:Array Value) (fr:Nat×Nat),A.heap[k]? =some (.cells cs T fr)->B.heap[k]? =some (.cells cs T fr)
theorem TK.refl (T:TypeId) (A:World):TK T A A:=fun _ _ _ h=>h
theorem TK.trans {T:TypeId} {A B C:World} (h:TK T A B) (k:TK T B C):TK T A C:=fun i cs fr e=>k i cs fr (h i cs fr e)
theorem TK.below {T:TypeId} {A B:World} (h:Below A.heap.size A B):TK T A B:=fun k _ _ e=>(h.block k (gZ e)).trans e
theorem TK.grown {T:TypeId} {A B:World} {row:Option Nat} (h:A.grownBy B row) (hT:∀X,row=some X->∀cs fr,A.heap[X]? ≠some (.cells cs T fr)):TK T A B:=fun k cs fr e=>(h.block k (gZ e) (fun e'=>hT k e'.symm cs fr e)).trans e
def KS (T:TypeId) (n₀ Y:Nat) (A B:World):Prop:=Below n₀ A B/\B.heap[Y]? =A.heap[Y]? /\B.heap[Y+1]? =A.heap[Y+1]? /\TK T A B
theorem KS.trans {T:TypeId} {n₀ Y:Nat} {A B C:World} (h:KS T n₀ Y A B) (k:KS T n₀ Y B C):KS T n₀ Y A C:=⟨h.1.trans k.1,k.2.1.trans h.2.1,k.2.2.1.trans h.2.2.1,h.2.2.2.trans k.2.2.2⟩
theorem aLp {m m' l:Nat} {P:Program} {args:Array Value} {W:World} {R:Ending->World->Prop} (h:YieldAt Fence.wide m P l args W R):YieldAt Fence.wide m' P l args W R:=by
 obtain⟨fn,tmps,assign,body,hy,hR⟩:=h;exact⟨fn,tmps,assign,body,hy,hR.1,fun c cs _=>hR.2 c cs (fun d h=>by cases h)⟩
theorem aC8 {P:Program} {g:Operand} {a:Act} {gf:Nat} {lb:Array Value} (hg:a.eval g=.func (.func gf) #[] lb) (l:Nat) (V:World):
  (resolve a.eval (rangeCall g l) 0).run P V=.ok {target:=.fn (.func gf) lb,args:=#[.func (.yield l) #[] #[]]} V:=by
 simp only[resolve,hg];simp[go_sem]
theorem aFB {P:Program} {gf:Nat} {lb:Array Value} (eg:∀args w,(callFunc gf args).run P w=.ok (.enter gf args) w) (args:Array Value) (V:World):
  (invoke (.fn (.func gf) lb) args).run P V=.ok (.enter gf (args++lb)) V:=by
 simp[invoke,go_sem,eg]
end Go.Proofs.YthmfgidbcghnfaaGreatDoor
namespace Go.Proofs.YthmfgidbcghnfaaGreatDoor
open Go.RowKit
theorem yG (p:Addr) (n c:Nat) (w:World):(binOp .eql 122 (.slice (some p) n c) (.slice none 0 0)).run Tryz.prog w=.ok (.bool false) w:=by
 have hu:=jY (w:=w) Tryz.underlying122;exact Aa8
theorem aCv (w:World):(binOp .eql 122 (.slice none 0 0) (.slice none 0 0)).run Tryz.prog w=.ok (.bool true) w:=by
 have hu:=jY (w:=w) Tryz.underlying122;exact Aa8
theorem aHu (p:Addr) (n c:Nat) (w:World):(binOp .neq 122 (.slice (some p) n c) (.slice none 0 0)).run Tryz.prog w=.ok (.bool true) w:=by
 have hu:=jY (w:=w) Tryz.underlying122;exact Aa8
theorem aHv (w:World):(binOp .neq 122 (.slice none 0 0) (.slice none 0 0)).run Tryz.prog w=.ok (.bool false) w:=by
 have hu:=jY (w:=w) Tryz.underlying122;exact Aa8
theorem aLt (p:Addr) (n c:Nat) (w:World):(binOp .eql 123 (.slice (some p) n c) (.slice none 0 0)).run Tryz.prog w=.ok (.bool false) w:=by
 have hu:=jY (w:=w) Tryz.underlying123;exact Aa8
abbrev Rw:=Nat->Option Int
structure Ok (R:Rw):Prop where
 off:∀i,32<=i->R i=none
 inr:∀i n,R i=some n→ -9223372036854775808<=n/\n<=9223372036854775807
def noR:Rw:=fun _=>none
theorem Ok.no:Ok noR:=⟨fun _ _=>rfl,fun _ _ h=>by cases h⟩
def onP (i:Int):Bool:=decide (0<=i/\i<32)
theorem aOp {i:Int} (h:onP i=true):∃j:Nat,i=(j:Int)/\j<32:=by
 have h':0<=i/\i<32:=by simpa[onP]using h
 exact⟨i.toNat,by omega,by omega⟩
theorem aSC {j:Nat} (h:j<32):onP (j:Int)=true:=by simp[onP];omega
def aNY (R:Rw) (i x:Int):Rw:=if onP i=true then fun j=>if j=i.toNat then some x else R j else R
def aPJ (R:Rw) (i:Int):Rw:=if onP i=true then fun j=>if j=i.toNat then none else R j else R
theorem aT1 {R:Rw} {j:Nat} (x:Int) (h:j<32):aNY R (j:Int) x=fun k=>if k=j then some x else R k:=by unfold aNY;rw[if_pos (aSC h)];rfl
theorem aTN {R:Rw} {j:Nat} (h:j<32):aPJ R (j:Int)=fun k=>if k=j then none else R k:=by unfold aPJ;rw[if_pos (aSC h)];rfl
theorem aQY {R:Rw} {i x:Int} (h:¬onP i=true):aNY R i x=R:=by unfold aNY;rw[if_neg h]
theorem aS5 {R:Rw} {i:Int} (h:¬onP i=true):aPJ R i=R:=by unfold aPJ;rw[if_neg h]
theorem Ok.set {R:Rw} (h:Ok R) (i x:Int) (hx: -9223372036854775808<=x/\x<=9223372036854775807):Ok (aNY R i x):=by
 by_cases ho:onP i=true
 ·obtain⟨j,rfl,hj⟩:=aOp ho
  rw[aT1 x hj];refine⟨fun k hk=> ?_,fun k n hn=> ?_⟩
  ·show(if k=j then some x else R k)=none
   rw[if_neg hO];exact h.off k hk
  ·replace hn:(if k=j then some x else R k)=some n:=hn
   split at hn
   ·cases hn;exact hx
   ·exact h.inr k n hn
 ·rw[aQY ho];exact h
theorem Ok.cut {R:Rw} (h:Ok R) (i:Int):Ok (aPJ R i):=by
 by_cases ho:onP i=true
 ·obtain⟨j,rfl,hj⟩:=aOp ho
  rw[aTN hj];refine⟨fun k hk=> ?_,fun k n hn=> ?_⟩
  ·show(if k=j then none else R k)=none
   split
   ·rfl
   ·exact h.off k hk
  ·replace hn:(if k=j then none else R k)=some n:=hn
   split at hn
   ·cases hn
   ·exact h.inr k n hn
 ·rw[aS5 ho];exact h
def aSj (b i:Nat):Bool:=b/2^i % 2==1
def rkN (b:Nat):Nat->Nat
 |0=>0
 |k+1=>rkN b k+(if aSj b k=true then 1 else 0)
theorem aH9 (b:Nat):∀k,rkN b k<=k
 |0=>aA _
 |k+1=>by have:=aH9 b k;unfold rkN;split<;>omega
end Go.Proofs.YthmfgidbcghnfaaGreatDoor
