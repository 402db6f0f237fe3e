import Derived.Test.YtengibnpebfblaaGreatDoorB3
set_option maxRecDepth 1000000
set_option maxHeartbeats 8000000
set_option linter.unusedSimpArgs false
namespace Go.Proofs.YtengibnpebfblaaGreatDoor
open Go.RowKit
def CutAt (S:Nat->Prop) (W:World) (s:Nat) (v:Value) (cs:List Value) (n:Nat):Prop:=
 ∃(a:Option Addr) (cap:Nat),v=.slice a n cap/\n<=cap/\cs.length=n*s/\((a=none/\cap=0)\/∃g o,a=some ⟨g,o,none⟩/\S g/\g<W.heap.size/\∀(j:Nat) (u:Value),cs[j]? =some u->W.cell? ⟨g,o+j,none⟩=some u)
def HeadAt (S:Nat->Prop) (W:World) (T:TypeId) (s:Nat) (v:Value) (cs:List Value) (n:Nat):Prop:=
 cs.length=n*s/\((n=0/\v=.slice none 0 0)\/(0<n/\∃(g c:Nat) (cur:Array Value) (fr:Nat×Nat),v=.slice (some ⟨g,0,none⟩) n c/\n<=c/\S g/\W.heap[g]? =some (.cells cur T fr)/\∀(j:Nat) (u:Value),cs[j]? =some u->cur[j]? =some u))
section
variable {S S' : Nat → Prop} {W W' : World} {T : TypeId} {s n n₀ : Nat} {v : Value} {cs : List Value}
theorem CutAt.weak (h:CutAt S W s v cs n) (hs:∀g,S g->S' g):CutAt S' W s v cs n:=by
 obtain⟨a,cap,h1,h2,h3,h4⟩:=h;refine⟨a,cap,h1,h2,h3,h4.imp_right ?_⟩;rintro⟨g,o,e,hS,h⟩;exact⟨g,o,e,hs g hS,h⟩
theorem CutAt.old (h:CutAt S W s v cs n):CutAt (fun g=>S g/\g<W.heap.size) W s v cs n:=by
 obtain⟨a,cap,h1,h2,h3,h4⟩:=h;refine⟨a,cap,h1,h2,h3,h4.imp_right ?_⟩;rintro⟨g,o,e,hS,hg,h⟩;exact⟨g,o,e,⟨hS,hg⟩,hg,h⟩
theorem CutAt.kept {row:Option Nat} (h:CutAt S W s v cs n) (hg:W.grownBy W' row) (hr:∀X,row=some X->¬S X):CutAt S W' s v cs n:=by
 obtain⟨a,cap,h1,h2,h3,h4⟩:=h;refine⟨a,cap,h1,h2,h3,h4.imp_right ?_⟩;rintro⟨g,o,e,hS,hlt,h⟩;have hb:=hg.block g hlt (fun e=>hr g e.symm hS);exact⟨g,o,e,hS,Nat.lt_of_lt_of_le hlt hg.size,fun j u hu=>(World.cell?_of_block (a:=⟨g,o+j,none⟩) hb).trans (h j u hu)⟩
theorem CutAt.later (h:CutAt S W s v cs n) (hb:Below W.heap.size W W'):CutAt S W' s v cs n:=
 h.kept (row:=none) ⟨hb.os,hb.tape,hb.output,hb.size,fun k hk _=>hb.block k hk⟩ (fun _ e=>by cases e)
theorem CutAt.len (h:CutAt S W s v cs n):cs.length=n*s:=by obtain⟨_,_,_,_,h,_⟩:=h;exact h
theorem CutAt.shape (h:CutAt S W s v cs n):∃a c,v=.slice a n c/\n<=c:=by obtain⟨a,c,h1,h2,_⟩:=h;exact⟨a,c,h1,h2⟩
theorem CutAt.pos (h:CutAt S W s v cs n) (h0:0<n):∃g o c,v=.slice (some ⟨g,o,none⟩) n c/\n<=c/\S g/\g<W.heap.size/\∀(j:Nat) (u:Value),cs[j]? =some u->W.cell? ⟨g,o+j,none⟩=some u:=by
 obtain⟨a,c,rfl,h2,h3,h4⟩:=h;rcases h4 with⟨rfl,rfl⟩|⟨g,o,rfl,h⟩
 ·omega
 ·exact⟨g,o,c,rfl,h2,h⟩
theorem HeadAt.weak (h:HeadAt S W T s v cs n) (hs:∀g,S g->S' g):HeadAt S' W T s v cs n:=by
 obtain⟨h0,h⟩:=h;refine⟨h0,h.imp_right ?_⟩;rintro⟨h1,g,c,cur,fr,h2,h3,hS,h4⟩;exact⟨h1,g,c,cur,fr,h2,h3,hs g hS,h4⟩
theorem HeadAt.old (h:HeadAt S W T s v cs n):HeadAt (fun g=>S g/\g<W.heap.size) W T s v cs n:=by
 obtain⟨h0,h⟩:=h;refine⟨h0,h.imp_right ?_⟩;rintro⟨h1,g,c,cur,fr,h2,h3,hS,h4,h5⟩;exact⟨h1,g,c,cur,fr,h2,h3,⟨hS,(gZ h4)⟩,h4,h5⟩
theorem HeadAt.kept {row:Option Nat} (h:HeadAt S W T s v cs n) (hg:W.grownBy W' row) (hr:∀X,row=some X->¬S X):HeadAt S W' T s v cs n:=by
 obtain⟨h0,h⟩:=h;refine⟨h0,h.imp_right ?_⟩;rintro⟨h1,g,c,cur,fr,h2,h3,hS,h4,h5⟩;exact⟨h1,g,c,cur,fr,h2,h3,hS,(hg.block g (gZ h4) (fun e=>hr g e.symm hS)).trans h4,h5⟩
theorem HeadAt.keptT {row:Option Nat} (h:HeadAt S W T s v cs n) (hg:W.grownBy W' row) (hT:∀X,row=some X->∃o:Obj,W.heap[X]? =some o/\∀cs fr,o≠.cells cs T fr):HeadAt S W' T s v cs n:=by
 obtain⟨h0,h⟩:=h;refine⟨h0,h.imp_right ?_⟩;rintro⟨h1,g,c,cur,fr,h2,h3,hS,h4,h5⟩;refine⟨h1,g,c,cur,fr,h2,h3,hS,(hg.block g (gZ h4) (fun e=> ?_)).trans h4,h5⟩;obtain⟨o,ho,hne⟩:=hT g e.symm;rw[h4]at ho;exact hne _ _ (Option.some.inj ho).symm
theorem HeadAt.later (h:HeadAt S W T s v cs n) (hb:Below W.heap.size W W'):HeadAt S W' T s v cs n:=
 h.kept (row:=none) ⟨hb.os,hb.tape,hb.output,hb.size,fun k hk _=>hb.block k hk⟩ (fun _ e=>by cases e)
theorem HeadAt.low (h:HeadAt (fun g=>g<n₀) W T s v cs n) (hb:Below n₀ W W'):HeadAt (fun g=>g<n₀) W' T s v cs n:=by
 obtain⟨h0,h⟩:=h;refine⟨h0,h.imp_right ?_⟩;rintro⟨h1,g,c,cur,fr,h2,h3,hS,h4,h5⟩;exact⟨h1,g,c,cur,fr,h2,h3,hS,(hb.block g hS).trans h4,h5⟩
theorem HeadAt.shape (h:HeadAt S W T s v cs n):∃a c,v=.slice a n c/\n<=c:=by
 rcases h with⟨_,⟨rfl,rfl⟩|⟨_,g,c,_,_,rfl,h,_⟩⟩
 ·exact⟨_,0,rfl,Nat.le_refl _⟩
 ·exact⟨_,c,rfl,h⟩
theorem HeadAt.pos (h:HeadAt S W T s v cs n) (h0:0<n):∃(g c:Nat) (cur:Array Value) (fr:Nat×Nat),v=.slice (some ⟨g,0,none⟩) n c/\n<=c/\S g/\W.heap[g]? =some (.cells cur T fr)/\∀(j:Nat) (u:Value),cs[j]? =some u->cur[j]? =some u:=by
 rcases h with⟨_,⟨rfl,_⟩|⟨_,h⟩⟩
 ·omega
 ·exact h
theorem HeadAt.cut (h:HeadAt S W T s v cs n):CutAt S W s v cs n:=by
 obtain⟨hl,⟨rfl,rfl⟩|⟨h0,g,c,cur,fr,rfl,h2,hS,h4,h5⟩⟩:=h
 ·exact⟨_,0,rfl,Nat.le_refl _,hl,.inl ⟨rfl,rfl⟩⟩
 ·refine⟨_,c,rfl,h2,hl,.inr ⟨g,0,rfl,hS,(gZ h4),fun j u hu=> ?_⟩⟩
  rw[Nat.zero_add];exact cell_in h4 (h5 j u hu)
theorem CutAt.places (h:CutAt S W s v cs n):PlacesAt W s v (fun j=>cs.getD j undef) n:=by
 obtain⟨a,cap,rfl,h2,h3,h4⟩:=h;refine⟨a,cap,rfl,fun h0=> ?_⟩;rcases h4 with⟨rfl,rfl⟩|⟨g,o,rfl,_,_,h5⟩
 ·omega
 ·refine⟨_,rfl,fun j hj=> ?_⟩
  rw[add_at];refine h5 j _ ?_;show cs[j]? =some (cs.getD j undef);rw[List.getD_eq_getElem?_getD,List.getElem?_eq_getElem (by omega)];rfl
theorem sliced_cut {a:Option Addr} {cap lo hi:Nat} (h:CutAt S W s (.slice a n cap) cs n) (h1:lo<=hi) (h2:hi<=n):CutAt S W s (sliced a lo hi cap s) ((cs.take (hi*s)).drop (lo*s)) (hi-lo):=by
 obtain⟨a',cap',e,h3,h4,h5⟩:=h;simp only[Value.slice.injEq,true_and]at e;obtain⟨rfl,rfl⟩:=e;have hl:((cs.take (hi*s)).drop (lo*s)).length=(hi-lo)*s:=by
  rw[List.length_drop,List.length_take,h4,Nat.sub_mul,Nat.min_eq_left (Nat.mul_le_mul_right _ h2)]
 refine⟨_,_,rfl,by omega,hl,?_⟩;rcases h5 with⟨rfl,rfl⟩|⟨g,o,rfl,hS,hlt,h6⟩
 ·exact .inl ⟨by split<;>rfl,by omega⟩
 ·refine .inr ?_
  by_cases e:cap=lo
  ·rw[if_pos e]
   refine⟨g,o,rfl,hS,hlt,fun j u hu=> ?_⟩;have:=(List.getElem?_eq_some_iff.1 hu).1;rw[hl,show hi-lo=0 by omega]at this;simp at this
  ·rw[if_neg e]
   refine⟨g,o+lo*s,by simp[add_at],hS,hlt,fun j u hu=> ?_⟩;rw[Nat.add_assoc];refine h6 _ _ ?_;rw[List.getElem?_drop,List.getElem?_take]at hu;split at hu
   ·exact hu
   ·cases hu
end
section
variable {P : Program} {S : Nat → Prop} {W : World} {s n : Nat} {v : Value} {cs : List Value}
theorem cut_h (t:TypeId) (ht:P.underlying t=some (.slice (P.elem t))) (hs:∀w,(sizeOf (P.elem t)).run P w=.ok s w) (h:CutAt S W s v cs n) {hi:Nat} (h2:hi<=n):
  ∃a c,CutAt S W s (.slice a hi c) (cs.take (hi*s)) hi/\∀w,(Instr.slice t v none (some (.int .i64 (hi:Int))) none).run P w=.ok (.slice a hi c) w:=by
 obtain⟨a,c,rfl,hc⟩:=h.shape;have:=sliced_cut h (Nat.zero_le _) h2;rw[Nat.zero_mul,List.drop_zero]at this;refine⟨_,_,this,fun w=> ?_⟩;rw[run_slice_h w t a n c ht _ _ (by omega) (by omega),hs];simp only[Result.andThen_ok,Int.toNat_natCast];rfl
theorem cut_l (t:TypeId) (ht:P.underlying t=some (.slice (P.elem t))) (hs:∀w,(sizeOf (P.elem t)).run P w=.ok s w) (h:CutAt S W s v cs n) {lo:Nat} (h2:lo<=n):
  ∃a c,CutAt S W s (.slice a (n-lo) c) (cs.drop (lo*s)) (n-lo)/\∀w,(Instr.slice t v (some (.int .i64 (lo:Int))) none none).run P w=.ok (.slice a (n-lo) c) w:=by
 obtain⟨a,c,rfl,hc⟩:=h.shape;have:=sliced_cut h h2 (Nat.le_refl _);rw[List.take_of_length_le (by rw[h.len];exact Nat.le_refl _)]at this;refine⟨_,_,this,fun w=> ?_⟩;rw[run_slice_l w t a n c ht _ _ (by omega) (by omega),hs];simp only[Result.andThen_ok,Int.toNat_natCast];rfl
theorem ownsRow_cut {w:World} {base:Nat} {e:TypeId} (h:w.ownsRow base e s v n cs):CutAt (fun g=>base<=g) w s v cs n:=by
 have h':=h;obtain⟨hl,⟨rfl,rfl⟩|⟨g,cap,cur,rfl,hb,hg,hc,_⟩⟩:=h
 ·exact⟨_,0,rfl,Nat.le_refl _,hl,.inl ⟨rfl,rfl⟩⟩
 ·refine⟨_,cap,rfl,hc,hl,.inr ⟨g,0,rfl,hb,(gZ hg),fun j u hu=> ?_⟩⟩
  have:=h'.cells (g:=g) rfl j u hu;rwa[add_at]at this
theorem ownsRow_low {w:World} {base:Nat} {e:TypeId} (h:w.ownsRow base e s v n cs):∀k,v.ownBlock=some k->base<=k:=fun k hk=>(h.lt k hk).1
theorem run_append_cut {w:World} (base:Nat) (t ty e:TypeId) (i:TypeInfo) (z:Value) (bytes:Nat) (ht:P.underlying t=some (.slice e)) (hi:P.info? e=some i) (hz:i.zero=some z)
  (hsize:i.size=s) (hby:i.bytes=bytes) (hzs:z.cells.size=s) (hsz:0<s) {vo:Value} {m:Nat} {xs:List Value} (hown:w.ownsRow base e s vo m xs) (hc:CutAt S w s v cs n) (h1:∀u∈cs,u.oneCell'=true)
  (h63:m+n<=maxLen) (hbytes:(m+n)*bytes<=140737488355328) (hbase:base<=w.heap.size):
  ∃v' w',(Builtin.append_ #[t,t] ty #[vo,v]).run P w=.ok v' w'/\w'.ownsRow base e s v' (m+n) (xs++cs)/\w.grownBy w' vo.ownBlock:=by
 obtain⟨a,cap,rfl,h2,h3,h4⟩:=hc;rcases h4 with⟨rfl,rfl⟩|⟨g,o,rfl,hS,hlt,h5⟩
 ·obtain rfl:n=0:=by omega
  obtain rfl:cs=[]:=List.eq_nil_of_length_eq_zero (by simpa using h3);exact⟨vo,w,run_append_owned_none w base t ty e i s ht hi vo m xs hown,by simpa using hown,⟨rfl,rfl,rfl,Nat.le_refl _,fun _ _ _=>rfl⟩⟩
 ·obtain⟨v',w',r1,r2,r3,_⟩:=run_append_own w base t ty e i z s bytes ht hi hz hsize hby hzs hsz vo m xs hown ⟨g,o,none⟩ n cap cs h3 (fun j u hu=>by rw[add_at];exact h5 j u hu) h1 h63 hbytes hbase
  exact⟨v',w',r1,r2,r3⟩
theorem wpList_append_cut {ops:Array Oper} {rest:List Oper} {o:Oper} {a:Act} {Q:Exit->Act->World->Prop} {w:World} (hgd:o.guard=none) (p x:Operand) (t:TypeId)
  (ho:o.op=.call {callee:=.builtin .append,args:=#[p,x],argTypes:=#[t,t]}) (base:Nat) (e:TypeId) (i:TypeInfo) (z:Value) (bytes:Nat) (ht:P.underlying t=some (.slice e)) (hi:P.info? e=some i) (hz:i.zero=some z)
  (hsize:i.size=s) (hby:i.bytes=bytes) (hzs:z.cells.size=s) (hsz:0<s) {vo:Value} {m:Nat} {xs:List Value} (hp:a.eval p=vo) (hown:w.ownsRow base e s vo m xs) (hx:a.eval x=v) (hc:CutAt S w s v cs n) (h1:∀u∈cs,u.oneCell'=true)
  (h63:m+n<=maxLen) (hbytes:(m+n)*bytes<=140737488355328) (hbase:base<=w.heap.size)
  (h:∀v' w',w'.ownsRow base e s v' (m+n) (xs++cs)->w.grownBy w' vo.ownBlock->wpList P ops Q rest (a.put o.dst v') w'):wpList P ops Q (o::rest) a w:=by
 obtain⟨v',w',r1,r2,r3⟩:=run_append_cut (P:=P) (w:=w) base t o.type e i z bytes ht hi hz hsize hby hzs hsz hown hc h1 h63 hbytes hbase;refine wpList_plain hgd fun K hK=> ?_
 unfold Oper.wp execOp;simp only[ho,resolve,invoke,builtin,Sem.run_bind,Sem.run_pure,Result.andThen_ok,List.map_toArray,List.map_cons,List.map_nil,hp,hx,r1];exact hK _ _ (h v' w' r2 r3)
end
def en {α:Type} (enc:α->List Value) (xs:List α):List Value:=xs.flatMap enc
section
variable {α : Type} {enc : α → List Value} {s : Nat}
theorem en_len (henc:∀x,(enc x).length=s):∀xs:List α,(en enc xs).length=xs.length*s
 |[]=>by simp[en]
 |x::xs=>by
  have:=en_len henc xs;unfold en at this ⊢;rw[List.flatMap_cons,List.length_append,this,henc,List.length_cons,Nat.add_mul];omega
theorem en_app (xs ys:List α):en enc (xs++ys)=en enc xs++en enc ys:=by simp[en]
theorem en_take (henc:∀x,(enc x).length=s) (xs:List α) (k:Nat):(en enc xs).take (k*s)=en enc (xs.take k):=by
 rcases Nat.lt_or_ge xs.length k with h|h
 ·rw[List.take_of_length_le (by rw[en_len henc];exact Nat.mul_le_mul_right _ (by omega)),List.take_of_length_le (by omega)]
 ·have e:=List.take_append_drop k xs
  have hl:(en enc (xs.take k)).length=k*s:=by rw[en_len henc,List.length_take,Nat.min_eq_left h]
  rw[<-e,en_app,List.take_append_of_le_length (by omega),List.take_of_length_le (by omega),e]
theorem en_drop (henc:∀x,(enc x).length=s) (xs:List α) (k:Nat):(en enc xs).drop (k*s)=en enc (xs.drop k):=by
 rcases Nat.lt_or_ge xs.length k with h|h
 ·rw[List.drop_of_length_le (by rw[en_len henc];exact Nat.mul_le_mul_right _ (by omega)),List.drop_of_length_le (by omega)];rfl
 ·have e:=List.take_append_drop k xs
  have hl:(en enc (xs.take k)).length=k*s:=by rw[en_len henc,List.length_take,Nat.min_eq_left h]
  rw[<-e,en_app,List.drop_append,List.drop_of_length_le (by omega),hl,Nat.sub_self,e];rfl
theorem en_one (hone:∀x,∀u∈enc x,u.oneCell'=true) (xs:List α):∀u∈en enc xs,u.oneCell'=true:=by
 intro u hu;obtain⟨x,_,hx⟩:=List.mem_flatMap.1 hu;exact hone x u hx
theorem en_at (henc:∀x,(enc x).length=s):∀(xs:List α) (i k:Nat) (x:α),xs[i]? =some x->k<s->(en enc xs)[i*s+k]? =(enc x)[k]?
 |[],_,_,_,h,_=>by simp at h
 |a::xs,0,k,x,h,hk=>by
  simp at h;subst h;unfold en;rw[List.flatMap_cons,List.getElem?_append_left (by rw[henc];omega)];simp
 |a::xs,i+1,k,x,h,hk=>by
  have:=en_at henc xs i k x (by simpa using h) hk;unfold en at this ⊢;rw[List.flatMap_cons,List.getElem?_append_right (by rw[henc,Nat.add_mul];omega),henc,show(i+1)*s+k-s=i*s+k by rw[Nat.add_mul];omega];exact this
def catE (ls:List (Value×List α)) (k:Nat):List α:=(ls.take k).flatMap (·.2)
theorem catE_succ {ls:List (Value×List α)} {k:Nat} (hk:k<ls.length):catE ls (k+1)=catE ls k++ls[k].2:=by
 unfold catE;rw[List.take_succ_eq_append_getElem hk,List.flatMap_append];simp
theorem catE_le {ls:List (Value×List α)}:∀{j:Nat} (k:Nat),k<=j->j<=ls.length->(catE ls k).length<=(catE ls j).length
  |0,k,hk,_=>by obtain rfl:k=0:=by omega
                exact Nat.le_refl _
  |j+1,k,hk,hj=>by
   by_cases e:k=j+1
   ·subst e;exact Nat.le_refl _
   ·have:=catE_le (ls:=ls) (j:=j) k (by omega) (by omega)
    rw[catE_succ (by omega),List.length_append];omega
end
def chunks {α:Type}:Nat->List α->List (List α)
 |0,_=>[]
 |c+1,xs=>xs.take (xs.length/(c+1))::chunks c (xs.drop (xs.length/(c+1)))
theorem chunks_len {α:Type}:∀(c:Nat) (xs:List α),(chunks c xs).length=c
 |0,_=>rfl
 |c+1,xs=>by simp[chunks,chunks_len c]
theorem chunks_flat {α:Type}:∀(c:Nat) (xs:List α),(c=0->xs=[])->(chunks c xs).flatten=xs
 |0,xs,h=>by rw[h rfl];rfl
 |c+1,xs,_=>by
  rw[chunks,List.flatten_cons,chunks_flat c _ (fun h=> ?_),List.take_append_drop];subst h;simp
theorem chunk_step {b N c:Nat} (h:b*(c+1)<=N):b<=N/(c+1)/\b*c<=N-N/(c+1):=by
 have h1:b<=N/(c+1):=(Nat.le_div_iff_mul_le (by omega)).2 h;refine⟨h1,?_⟩;have h2:N/(c+1)*(c+1)<=N:=Nat.div_mul_le_self _ _;have h3:b*c<=N/(c+1)*c:=Nat.mul_le_mul_right _ h1;rw[Nat.mul_add,Nat.mul_one]at h2;omega
theorem chunk_step' {B N c:Nat} (h:N<=B*(c+1)):N/(c+1)<=B/\N-N/(c+1)<=B*c:=by
 have h1:N/(c+1)<=B:=by
  have:=Nat.div_le_div_right (c:=c+1) h;rwa[Nat.mul_div_cancel _ (by omega)]at this
 refine⟨h1,?_⟩;have h2:N<(N/(c+1)+1)*(c+1):=by
  have:=Nat.lt_div_mul_add (a:=N) (b:=c+1) (by omega);rw[Nat.add_mul,Nat.one_mul];exact this
 rcases Nat.lt_or_ge (N/(c+1)) B with h3|h3
 ·have h4:(N/(c+1)+1)*c<=B*c:=Nat.mul_le_mul_right _ h3
  rw[Nat.mul_add,Nat.mul_one]at h2;omega
 ·have e:N/(c+1)=B:=by omega
  rw[e];rw[Nat.mul_add,Nat.mul_one]at h;omega
theorem chunks_mem {α:Type} {b B:Nat}:∀(c:Nat) (xs:List α),b*c<=xs.length->xs.length<=B*c->∀ys∈chunks c xs,b<=ys.length/\ys.length<=B
 |0,_,_,_,_,h=>by cases h
 |c+1,xs,h1,h2,ys,h=>by
  have s1:=chunk_step h1;have s2:=chunk_step' h2;have hle:xs.length/(c+1)<=xs.length:=Nat.div_le_self _ _;rcases List.mem_cons.1 h with rfl|h
  ·rw[List.length_take]
   omega
  ·exact chunks_mem c _ (by rw[List.length_drop];exact s1.2) (by rw[List.length_drop];exact s2.2) ys h
def cntN (N:Nat):Nat:=(N+15)/16
theorem chunks_wide {α:Type} (xs:List α):∀ys∈chunks (cntN xs.length) xs,1<=ys.length/\ys.length<=16/\(2<=cntN xs.length->8<=ys.length):=by
 intro ys hy;have h1:=chunks_mem (b:=1) (B:=16) _ xs (by unfold cntN;omega) (by unfold cntN;omega) ys hy;refine⟨h1.1,h1.2,fun h2=> ?_⟩;exact(chunks_mem (b:=8) (B:=16) _ xs (by unfold cntN at h2 ⊢;omega) (by unfold cntN;omega) ys hy).1
theorem chunks_one {α:Type} (xs:List α) (h:cntN xs.length=1):chunks (cntN xs.length) xs=[xs]:=by
 rw[h];simp[chunks]
end Go.Proofs.YtengibnpebfblaaGreatDoor
