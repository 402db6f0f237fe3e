import Derived.Test.YtengibnpebfblaaGreatDoorQ0
import Derived.Test.YtengibnpebfblaaGreatDoorQ2
set_option maxRecDepth 1000000
set_option maxHeartbeats 8000000
set_option linter.unusedSimpArgs false
namespace Go.Proofs.YtengibnpebfblaaGreatDoor
open Go.RowKit
def bv (l:List UInt8):List Value:=l.map fun c=>.int .u8 (c.toNat:Int)
theorem aHd (l:List UInt8):(bv l).length=l.length:=by simp[bv]
theorem aHe (l r:List UInt8):bv (l++r)=bv l++bv r:=by simp[bv]
theorem aLI {l:List UInt8}:∀u∈bv l,u.oneCell'=true:=by
 intro u hu;unfold bv at hu;rw[cH]at hu;obtain⟨c,_,rfl⟩:=hu;rfl
def Buf (B:Nat) (v:Value) (l:List UInt8) (w:World):Prop:=w.ownsRowF B 5 1 v l.length (bv l)/\B<=w.heap.size
section
variable {B : Nat} {v : Value} {l : List UInt8} {w w1 : World}
theorem Buf.nil (h:B<=w.heap.size):Buf B (.slice none 0 0) [] w:=⟨kM _ _ _ _,h⟩
theorem Buf.lit (hB:B<=w.heap.size) (cs:Array Value) (l:List UInt8) (hc:cs.toList=bv l) (hl4:l.length<=4096):
  Buf B (.slice (some ⟨w.heap.size,0,none⟩) l.length l.length) l (w.alloc (.cells cs 5)):=by
 have hl:l.length<=maxLen:=by unfold maxLen;omega
 have hs:cs.size=l.length*1:=by rw[<-bB,hc,aHd];omega
 refine⟨?_,by simp;omega⟩;have:=nM (aIc (base:=B) (e:=5) (size:=1) w cs l.length hB hl hs);rwa[hc]at this
theorem Below.after {w w1 w2:World} (h1:Below w.heap.size w w1) (h2:Below w1.heap.size w1 w2):Below w.heap.size w w2:=tW h1 h2
theorem Buf.drewN (h:Buf B v l w) (n:Nat):Buf B v l (w.drewN n):=h
theorem Buf.alloc (h:Buf B v l w) (o:Obj):Buf B v l (w.alloc o):=⟨h.1.alloc o,by have:=h.2;simp;omega⟩
theorem Buf.drew (h:Buf B v l w):Buf B v l w.drew:=h
theorem Buf.low {B':Nat} (h:Buf B v l w) (hB:B'<=B):Buf B' v l w:=by
 exact Af0
theorem Buf.later (h:Buf B v l w) (hb:Below w.heap.size w w1):Buf B v l w1:=by
 obtain⟨⟨h1,h2⟩,h3⟩:=h;refine⟨⟨h1,?_⟩,aG h3 hb.size⟩;rcases h2 with h2|⟨g,cap,cur,fz,a1,a2,a3,a4⟩
 ·exact .inl h2
 ·have hg:g<w.heap.size:=by
   rcases cZ g w.heap.size with hlt|hge
   ·exact hlt
   ·rw[Array.getElem?_eq_none hge]at a3;cases a3
  exact .inr ⟨g,cap,cur,fz,a1,a2,(hb.block g hg).trans a3,a4⟩
theorem Buf.src (h:Buf B v l w) (hn:l≠[]):∃ad c,v=.slice (some ad) l.length c/\∀j u,(bv l)[j]? =some u->w.cell? (ad.add j)=some u:=by
 exact Ad8
theorem Buf.str (h:Buf B v l w):(convert 129 9 v).run Tryz.prog w=.ok (.string ⟨l.toArray⟩) w:=by
 by_cases hn:l=[]
 ·subst hn
  obtain⟨⟨h1,h2⟩,_⟩:=h;rcases h2 with⟨rfl,_⟩|⟨g,cap,cur,fz,rfl,a2,a3,a4⟩
  ·rw[run_convert_bytes_string w 129 9 5 none 0 0 Tryz.underlying129 Tryz.underlying5 Tryz.underlying9]
   rfl
  ·exact rG (P:=Tryz.prog) w 129 9 5 ⟨g,0,none⟩ cap [] Tryz.underlying129 Tryz.underlying5 Tryz.underlying9 (fun j hj=>by simp at hj)
 ·obtain⟨ad,c,rfl,hc⟩:=h.src hn
  refine rG (P:=Tryz.prog) w 129 9 5 ad c l Tryz.underlying129 Tryz.underlying5 Tryz.underlying9 (fun j hj=>hc j _ ?_);simp[bv,hj]
theorem Buf.len (h:Buf B v l w):∃a c,v=.slice a l.length c:=by
 exact Ah1
end
theorem aAR:(Tryz.prog.info? 5).map (fun i=>(i.zero,i.size,i.bytes))=some (some (.int .u8 0),1,1):=by kernel_rfl
theorem aOd {o:Oper} {a:Act} {K:Act->World->Prop} {Q:Exit->Act->World->Prop} {w:World} (s x:Operand)
  (ho:o.op=.call {callee:=.builtin .append,args:=#[s,x],argTypes:=#[129,129]})
  {B:Nat} {v:Value} {l:List UInt8} (hs:a.eval s=v) (hb:Buf B v l w) (r:List UInt8) (ad:Addr) (c:Nat) (hx:a.eval x=.slice (some ad) r.length c)
  (hc:∀j u,(bv r)[j]? =some u->w.cell? (ad.add j)=some u) (hlen:l.length+r.length<=140737488355328)
  (h:∀v' w',Buf B v' (l++r) w'->Below B w w'->K (a.put o.dst v') w'):o.wp Tryz.prog a w K Q:=by
 obtain⟨i,hi,hz,h1,h2⟩:=dV aAR;obtain⟨v',w',hr,g1,g2,_⟩:=aCj (P:=Tryz.prog) w B 129 o.type 5 i (.int .u8 0) 1 1 Tryz.underlying129 hi hz h1 h2 rfl uAv v l.length (bv l) hb.1 ad r.length c (bv r) (by rw[aHd];omega) hc aLI
  uCw uAu hb.2
 unfold Oper.wp execOp;simp only[ho,resolve,invoke,builtin,fF,fR,cS,iA,cG,iL,hs,hx,hr];refine h v' w' ⟨by rw[aD,aHe];exact g1,aG hb.2 g2.size⟩ ?_;exact(aY _ _).grown g2 hb.2 (fun k hk=>(hb.1.lt k hk).1)
theorem aHf {ops:Array Oper} {rest:List Oper} {o:Oper} {a:Act} {Q:Exit->Act->World->Prop} {w:World} (hgd:o.guard=none) (s x:Operand)
  (ho:o.op=.call {callee:=.builtin .append,args:=#[s,x],argTypes:=#[129,129]})
  {B:Nat} {v:Value} {l:List UInt8} (hs:a.eval s=v) (hb:Buf B v l w) (r:List UInt8) (ad:Addr) (c:Nat) (hx:a.eval x=.slice (some ad) r.length c)
  (hc:∀j u,(bv r)[j]? =some u->w.cell? (ad.add j)=some u) (hlen:l.length+r.length<=140737488355328)
  (h:∀v' w',Buf B v' (l++r) w'->Below B w w'->wpList Tryz.prog ops Q rest (a.put o.dst v') w'):wpList Tryz.prog ops Q (o::rest) a w:=
 cW hgd fun _ hK=>aOd s x ho hs hb r ad c hx hc hlen fun v' w' h1 h2=>hK _ _ (h v' w' h1 h2)
theorem aD4 (w:World) (r:List UInt8) (cs:Array Value) (hcs:cs=(bv r).toArray):∀j u,(bv r)[j]? =some u->(w.alloc (.cells cs 5)).cell? ((⟨w.heap.size,0,none⟩:Addr).add j)=some u:=by
 subst hcs;intro j u hu;have e:(⟨w.heap.size,0,none⟩:Addr).add j=⟨w.heap.size,j,none⟩:=by
  simp[Addr.add];intro hj;exact hj.symm
 rw[e];simpa using hu
theorem lO {ops:Array Oper} {rest:List Oper} {o:Oper} {a:Act} {Q:Exit->Act->World->Prop} {w:World} (hgd:o.guard=none) (s x:Operand)
  (ho:o.op=.call {callee:=.builtin .append,args:=#[s,x],argTypes:=#[129,129]})
  {B:Nat} {v:Value} {l:List UInt8} (hs:a.eval s=v) (hb:Buf B v l w) (r:List UInt8) (cs:Array Value) (hcs:cs=(bv r).toArray) (n c:Nat) (hn:n=r.length) (hx:a.eval x=.slice (some ⟨w.heap.size,0,none⟩) n c)
  (hlen:l.length+r.length<=140737488355328)
  (h:∀v' w',Buf B v' (l++r) w'->Below B w w'->wpList Tryz.prog ops Q rest (a.put o.dst v') w'):wpList Tryz.prog ops Q (o::rest) a (w.alloc (.cells cs 5)):=by
 subst hn;exact aHf hgd s x ho hs (hb.alloc _) r ⟨w.heap.size,0,none⟩ c hx (aD4 w r cs hcs) hlen fun v' w' h1 h2=>h v' w' h1 (((aY _ _).alloc hb.2 _).trans h2)
end Go.Proofs.YtengibnpebfblaaGreatDoor
namespace Go.Proofs.YtengibnpebfblaaGreatDoor
open Go.RowKit
theorem aDX (m:Nat):(2:Int)^m=((2^m:Nat):Int):=by rw[Int.natCast_pow];rfl
theorem aG0 (h m:Nat):(h:Int)/2^m=((h/2^m:Nat):Int):=by rw[aDX,aHZ]
theorem aNN {m:Nat} (hm:m<64):2^m<18446744073709551616:=uC uAv hm
theorem aKW (m:Nat) (hm:m<=64):IntKind.u64.wrap (IntKind.u64.wrap ((2:Int)^m)-1)=((2^m-1:Nat):Int):=by
 by_cases h:m=64
 ·subst h;decide
 ·have h1:=aNN (show m<64 by omega)
  have h2:=mW m;rw[aDX,iB,iB];omega
def tK (h:Nat) (k:Int):Nat:=h % 2^(min (max k 0) 64).toNat
def iZ (h:Nat) (k:Int):Nat:=if 0<=k/\k<=12 then h/2^(5*k).toNat % 32 else 0
theorem aGW {h:Nat} (k:Int) (hh:h<18446744073709551616):tK h k<18446744073709551616:=jD (Nat.mod_le _ _) hh
theorem sM (h:Nat) (k:Int):iZ h k<32:=by unfold iZ;split<;>omega
theorem aBB (h:Nat) (k:Int) (hh:h<18446744073709551616) (w:World):
  Calls Tryz.prog 133 #[.int .u64 (h:Int),.int .i64 k] w fun e w'=>e=.returned (.int .u64 (tK h k:Int))/\w=w':=by
 have e:bits .and .u64 (h:Int) (IntKind.u64.wrap (IntKind.u64.wrap ((2:Int)^(min (max k 0) 64).toNat)-1))=(tK h k:Int):=by
  have hm:(min (max k 0) 64).toNat<=64:=by omega
  have hp:2^(min (max k 0) 64).toNat<=2^64:=uD uAv hm;rw[aKW _ hm,bits_and_u64_nat h _ hh uAu,aLP];rfl
 have H:=aJ e;clear e hh;go_enter Tryz.func133,Tryz.ntmps133;go_wp2
 go_ret;exact⟨oJ H.out,rfl⟩
theorem aD5 (h:Nat) (k:Int) (hh:h<18446744073709551616) (w:World):
  Calls Tryz.prog 132 #[.int .u64 (h:Int),.int .i64 k] w fun e w'=>e=.returned (.int .i64 (iZ h k:Int))/\w=w':=by
 by_cases hk:0<=k/\k<=12
 ·obtain⟨q,hq⟩:∃q,q=h/2^(5*k).toNat:=⟨_,rfl⟩
  have H:=aJ (fun w=>aBB q 5 (hq▸jD (uF _ _) hh) w);have h1:=aG0 h (5*k).toNat;rw[<-hq]at h1;have h2:wrap64 (tK q 5:Int)=(iZ h k:Int):=by
   have e:tK q 5=q % 32:=rfl;rw[e,iZ,if_pos hk,<-hq];unfold wrap64;omega
  obtain⟨k1,k2⟩:=hk;clear hh hq;go_enter Tryz.func132,Tryz.ntmps132;go_wp2_with fail
  refine(H.out w).mono ?_;rintro e w1 ⟨rfl,rfl⟩;go_wp2_with fail
  go_ret;exact⟨aHC h2,rfl⟩
 ·have h2:iZ h k=0:=by rw[iZ,if_neg hk]
  have H:=aJ h2;clear h2 hh;by_cases h0:k<0
  ·exact Ah8
  ·have h12:12<k:=by omega
   exact Ah8
end Go.Proofs.YtengibnpebfblaaGreatDoor
namespace Go.Proofs.YtengibnpebfblaaGreatDoor
open Go.RowKit Go.Shelf
def qS (B:Nat) (v:Value) (l:List Int) (w:World):Prop:=w.ownsRow B 3 1 v l.length (iv l)/\B<=w.heap.size
section
variable {B : Nat} {v : Value} {l : List Int} {w w1 : World}
theorem qS.nil (h:B<=w.heap.size):qS B (.slice none 0 0) [] w:=⟨rI _ _ _ _,h⟩
theorem qS.lit (hB:B<=w.heap.size) (cs:Array Value) (l:List Int) (hc:cs.toList=iv l) (hl4:l.length<=4096):
  qS B (.slice (some ⟨w.heap.size,0,none⟩) l.length l.length) l (w.alloc (.cells cs 3)):=by
 have hl:l.length<=maxLen:=by unfold maxLen;omega
 have hs:cs.size=l.length*1:=by rw[<-bB,hc,aBM];omega
 refine⟨?_,by simp;omega⟩;have:=(aIc (base:=B) (e:=3) (size:=1) w cs l.length hB hl hs)
 rwa[hc]at this
theorem qS.low {B':Nat} (h:qS B v l w) (hB:B'<=B):qS B' v l w:=by
 exact Ac5
theorem qS.grown {row:Option Nat} (h:qS B v l w) (hg:w.grownBy w1 row) (hne:v.ownBlock=none\/v.ownBlock≠row):qS B v l w1:=⟨h.1.kept hg hne,aG h.2 hg.size⟩
theorem qS.later (h:qS B v l w) (hb:Below w.heap.size w w1):qS B v l w1:=h.grown (row:=none) ⟨hb.os,hb.tape,hb.output,hb.size,fun k hk _=>hb.block k hk⟩ uGx
theorem qS.alloc (h:qS B v l w) (o:Obj):qS B v l (w.alloc o):=h.later ((aY _ _).alloc (aE _) o)
theorem qS.len (h:qS B v l w):∃a c,v=.slice a l.length c:=by
 exact Ad3
end
theorem qS.pos {B:Nat} {v:Value} {l:List Int} {w:World} (h:qS B v l w) (h0:0<l.length):∃(g c:Nat) (cs:Array Value),v=.slice (some ⟨g,0,none⟩) l.length c/\l.length<=c/\B<=g/\w.heap[g]? =some (.cells cs 3 (0,0))/\l.length<=cs.size/\∀j,j<l.length->cs[j]? =some (.int .i64 (l.getD j 0)):=by
 obtain⟨⟨_,h2⟩,_⟩:=h;rcases h2 with⟨rfl,h3⟩|⟨g,cap,cur,rfl,hB,hg,h5,h6,h7,h8⟩
 ·omega
 ·refine⟨g,cap,cur,rfl,h5,hB,hg,by omega,fun j hj=> ?_⟩
  have hu:(iv l)[j]? =some (.int .i64 (l.getD j 0)):=by
   rw[iv,List.getElem?_map,List.getElem?_eq_getElem hj,List.getD_eq_getElem?_getD,List.getElem?_eq_getElem hj];rfl
  rw[<-h8,List.getElem?_take_of_lt uAu,Array.getElem?_toList]at hu;exact hu
theorem qS.put {B:Nat} {v:Value} {l:List Int} {w w':World} (h:qS B v l w) {g c j:Nat} {cs:Array Value} {x:Int} (hv:v=.slice (some ⟨g,0,none⟩) l.length c) (hg:w.heap[g]? =some (.cells cs 3 (0,0)))
  (h':w'.heap[g]? =some (.cells (cs.setIfInBounds j (.int .i64 x)) 3 (0,0))) (k:jK g w w'):qS B v (l.set j x) w':=by
 obtain⟨⟨h1,h2⟩,h3⟩:=h;subst hv;rcases h2 with⟨e,_⟩|⟨g',cap,cur,e,hB,hg',h5,h6,h7,h8⟩
 ·cases e
 ·simp only[dR,cC,nB,aAA,aAz]at e
  obtain⟨rfl,rfl⟩:=e;rw[hg]at hg';simp only[cC,dU,aAA]at hg';subst hg';refine⟨⟨by rw[aBM];omega,.inr ⟨g,c,_,by rw[List.length_set],hB,h',by rw[List.length_set];exact h5,h6,by simpa using h7,?_⟩⟩,aG h3 k.by_.size⟩;rw[List.length_set,Array.toList_setIfInBounds,List.take_set,h8];simp[iv]
end Go.Proofs.YtengibnpebfblaaGreatDoor
namespace Go.Proofs.YtengibnpebfblaaGreatDoor
open Go.RowKit Go.Shelf
def TK (T:TypeId) (A B:World):Prop:=∀(k:Nat) (cs:Array Value) (fr:Nat×Nat),A.heap[k]? =some (.cells cs T fr)->B.heap[k]? =some (.cells cs T fr)
theorem TK.refl (T:TypeId) (A:World):TK T A A:=fun _ _ _ h=>h
theorem TK.trans {T:TypeId} {A B C:World} (h:TK T A B) (k:TK T B C):TK T A C:=fun i cs fr e=>k i cs fr (h i cs fr e)
theorem TK.below {T:TypeId} {A B:World} (h:Below A.heap.size A B):TK T A B:=fun k _ _ e=>(h.block k (gZ e)).trans e
theorem TK.grown {T:TypeId} {A B:World} {row:Option Nat} (h:A.grownBy B row) (hT:∀X,row=some X->∀cs fr,A.heap[X]? ≠some (.cells cs T fr)):TK T A B:=fun k cs fr e=>(h.block k (gZ e) (fun e'=>hT k e'.symm cs fr e)).trans e
def KS (T:TypeId) (n₀ Y:Nat) (A B:World):Prop:=Below n₀ A B/\B.heap[Y]? =A.heap[Y]? /\B.heap[Y+1]? =A.heap[Y+1]? /\TK T A B
theorem KS.trans {T:TypeId} {n₀ Y:Nat} {A B C:World} (h:KS T n₀ Y A B) (k:KS T n₀ Y B C):KS T n₀ Y A C:=⟨h.1.trans k.1,k.2.1.trans h.2.1,k.2.2.1.trans h.2.2.1,h.2.2.2.trans k.2.2.2⟩
theorem aIh {m m' l:Nat} {P:Program} {args:Array Value} {W:World} {R:Ending->World->Prop} (h:YieldAt Fence.wide m P l args W R):YieldAt Fence.wide m' P l args W R:=by
 obtain⟨fn,tmps,assign,body,hy,hR⟩:=h;exact⟨fn,tmps,assign,body,hy,hR.1,fun c cs _=>hR.2 c cs (fun d h=>by cases h)⟩
theorem aBn {P:Program} {g:Operand} {a:Act} {gf:Nat} {lb:Array Value} (hg:a.eval g=.func (.func gf) #[] lb) (l:Nat) (V:World):
  (resolve a.eval (rangeCall g l) 0).run P V=.ok {target:=.fn (.func gf) lb,args:=#[.func (.yield l) #[] #[]]} V:=by
 simp only[resolve,hg];simp[go_sem]
theorem aDV {P:Program} {gf:Nat} {lb:Array Value} (eg:∀args w,(callFunc gf args).run P w=.ok (.enter gf args) w) (args:Array Value) (V:World):
  (invoke (.fn (.func gf) lb) args).run P V=.ok (.enter gf (args++lb)) V:=by
 simp[invoke,go_sem,eg]
def aIb {α:Type} (P:Program) (gf:Nat) (lb:Array Value) (encs:α->Array Value) (RK IK:Nat->World->World->Prop) (S Sp Pr:List α->Prop) (w0:World):Prop:=
 ∀(l:Nat) (J Jx:List α->World->Prop) (W:World),Below w0.heap.size w0 W->(∀s A B,J s A->IK W.heap.size A B->J s B)->
  (∀m pre x V,J pre V->W.heap.size<=V.heap.size->Pr (pre++[x])->YieldAt Fence.wide m P l (encs x) V fun e V'=>
   (e=.returned (.bool true)/\J (pre++[x]) V'/\RK W.heap.size V V')\/(e=.returned (.bool false)/\Jx (pre++[x]) V'))->
  J [] W->∀m,CallsIn Fence.wide m P gf (#[.func (.yield l) #[] #[]]++lb) W fun e W'=>(∃v,e=.returned v)/\((∃ys,S ys/\J ys W')\/(∃pre,Sp pre/\Jx pre W'))
structure aIa (RK IK:Nat->World->World->Prop) (n₀:Nat):Prop where
 trans:∀{Y:Nat} {A B C:World},RK Y A B->RK Y B C->RK Y A C
 put:∀{Y l:Nat} {A:World} {o o':Obj},A.heap[l]? =some o->o.isCells=false->n₀<=l->l<Y->RK Y A (A.putObj l o')
 low:∀{Y k:Nat} {A B:World},IK Y A B->k<Y->k<A.heap.size->B.heap[k]? =A.heap[k]?
def KW (Ts:TypeId->Prop) (n₀ Y:Nat) (A B:World):Prop:=Below n₀ A B/\A.heap.size<=B.heap.size/\(∀(k:Nat) (cs:Array Value) (T:TypeId) (fr:Nat×Nat),A.heap[k]? =some (.cells cs T fr)->¬Ts T->B.heap[k]? =some (.cells cs T fr))/\∀(k:Nat) (o:Obj),Y<=k->A.heap[k]? =some o->o.isCells=false->B.heap[k]? =some o
def IKW (Ts:TypeId->Prop) (Y:Nat) (A B:World):Prop:=A.heap.size<=B.heap.size/\Below Y A B/\∀(k:Nat) (cs:Array Value) (T:TypeId) (fr:Nat×Nat),A.heap[k]? =some (.cells cs T fr)->Ts T->B.heap[k]? =some (.cells cs T fr)
theorem KW.trans {Ts:TypeId->Prop} {n₀ Y:Nat} {A B C:World} (h:KW Ts n₀ Y A B) (k:KW Ts n₀ Y B C):KW Ts n₀ Y A C:=
 ⟨h.1.trans k.1,aG h.2.1 k.2.1,fun i cs T fr e hT=>k.2.2.1 i cs T fr (h.2.2.1 i cs T fr e hT) hT,fun i o hi e ho=>k.2.2.2 i o hi (h.2.2.2 i o hi e ho) ho⟩
theorem KW.up {Ts:TypeId->Prop} {n₀ Y Z:Nat} {A B:World} (h:KW Ts n₀ Y A B) (hz:Y<=Z):KW Ts n₀ Z A B:=⟨h.1,h.2.1,h.2.2.1,fun i o hi=>h.2.2.2 i o (aG hz hi)⟩
theorem IKW.down {Ts:TypeId->Prop} {Y Z:Nat} {A B:World} (h:IKW Ts Z A B) (hz:Y<=Z):IKW Ts Y A B:=⟨h.1,h.2.1.mono hz,h.2.2⟩
theorem KW.below {Ts:TypeId->Prop} {n₀ Y:Nat} {A B:World} (h:Below A.heap.size A B) (hn:n₀<=A.heap.size):KW Ts n₀ Y A B:=
 ⟨h.mono hn,h.size,fun i _ _ _ e _=>(h.block i (gZ e)).trans e,fun i _ _ e _=>(h.block i (gZ e)).trans e⟩
theorem IKW.below {Ts:TypeId->Prop} {Y:Nat} {A B:World} (h:Below A.heap.size A B) (hY:Y<=A.heap.size):IKW Ts Y A B:=
 ⟨h.size,h.mono hY,fun i _ _ _ e _=>(h.block i (gZ e)).trans e⟩
theorem IKW.grown {Ts:TypeId->Prop} {Y X:Nat} {A B:World} (h:A.grownBy B (some X)) (hX:Y<=X) (hXs:X<A.heap.size) (hT:∀(cs:Array Value) (T:TypeId) (fr:Nat×Nat),A.heap[X]? =some (.cells cs T fr)->¬Ts T):IKW Ts Y A B:=
 ⟨h.size,(aY _ A).grown h uAu (fun k e=>by cases e;exact hX),fun i cs T fr e ht=>(h.block i (gZ e) (fun e'=>by cases e';exact hT cs T fr e ht)).trans e⟩
theorem KW.grown {Ts:TypeId->Prop} {n₀ Y X:Nat} {A B:World} (h:A.grownBy B (some X)) (hX:n₀<=X) (hXs:X<A.heap.size) {cs:Array Value} {T:TypeId} {fr:Nat×Nat} (hT:A.heap[X]? =some (.cells cs T fr)) (ht:Ts T):KW Ts n₀ Y A B:=
 ⟨(aY _ A).grown h uAu (fun k e=>by cases e;exact hX),h.size,fun i cs' T' fr' e ht'=>(h.block i (gZ e) (fun e'=>by
  cases e'
  rw[hT]at e;simp only[cC,dU]at e;rw[<-e.2.1]at ht';exact ht' ht)).trans e,fun i o _ e ho=>(h.block i (gZ e) (fun e'=>by
  cases e'
  rw[hT]at e;cases e
  cases ho)).trans e⟩
theorem aAr (Ts:TypeId->Prop) (n₀:Nat):aIa (fun Y A B=>KW Ts n₀ Y A B) (fun Y A B=>IKW Ts Y A B) n₀ where
 trans:=fun h k=>h.trans k
 put:=fun {Y l A o o'} h ho hn h1=>⟨(aY n₀ A).grown (eM A l o') (by have:=(gZ h);omega) (fun k e=>by cases e;omega),(eM A l o').size,
  fun i cs T fr e _=>by
   rw[cF (fun e'=>by rw[e',h]at e;cases e;cases ho)];exact e,
  fun i o hi e _=>by rw[cF uAu];exact e⟩
 low:=fun h h1 _=>h.2.1.block _ h1
end Go.Proofs.YtengibnpebfblaaGreatDoor
namespace Go.Proofs.YtengibnpebfblaaGreatDoor
open Go.RowKit
def vB (w w':World):Prop:=∃n,w'=w.drewN n
theorem vB.refl (w:World):vB w w:=⟨0,rfl⟩
theorem vB.more {w w1:World} (h:vB w w1) (n:Nat):vB w (w1.drewN n):=by
 obtain⟨k,rfl⟩:=h;exact⟨k+n,by rw[World.drewN_drewN]⟩
theorem vB.below {w w1:World} (h:vB w w1):Below w.heap.size w w1:=by
 exact Ak4
theorem eY (s:ByteArray):s.data.toList.length=s.size:=by simp
theorem xI (s:ByteArray) (k:Nat) (h:k<s.size):s.data.toList.take (k+1)=s.data.toList.take k++[s[k]]:=by
 rw[aS uDw];rfl
theorem vS (s:ByteArray) (k:Nat) (h:k<s.size):s.data.toList[k]? =some s[k]:=by
 rw[List.getElem?_eq_getElem uDw];rfl
theorem kO {x y:Int} (h:x=y):Ending.returned (.int .i64 x)=.returned (.int .i64 y):=by rw[h]
theorem aGO (a b:ByteArray) (w:World) (ha:a.size<=maxLen):Calls Tryz.prog 69 #[.string a,.string b] w fun e w'=>e=.returned (.int .i64 (fN a.data.toList b.data.toList:Nat))/\vB w w':=by
 unfold maxLen at ha;go_enter Tryz.func69,Tryz.ntmps69;go_wp2
 go_loopw [5] (fun n wr=>∃k:Nat,k<=a.size/\k<=b.size/\n=.int .i64 k/\a.data.toList.take k=b.data.toList.take k/\vB w wr) (fun n _=>a.size-(intOf n).toNat)
 case atStart=>exact⟨0,aQ _,aQ _,rfl,rfl,vB.refl _⟩
 case round=>
  obtain⟨k,hka,hkb,rfl,ht,hd⟩:=hrel;have HT:=iH ht;have HD:=iH hd;clear ht hd;by_cases h1:k<a.size
  ·by_cases h2:k<b.size
   ·have h1':decide ((k:Int)<(a.size:Int))=true:=by simp;omega
    have h2':decide ((k:Int)<(b.size:Int))=true:=by simp;omega
    by_cases h3:a[k]=b[k]
    ·have HS:Hid (a.data.toList.take (k+1)=b.data.toList.take (k+1)):=by
      show _=_;rw[xI a k h1,xI b k h2,HT.out,h3]
     have h4:((a[k].toNat:Int)==(b[k].toNat:Int))=true:=by rw[h3];exact tA _
     have h5:(a[k].toNat:Int)=(b[k].toNat:Int):=by rw[h3]
     clear h3;go_wp2
     go_quiet (fail)
     go_wp2
     go_roundw
     case rel=>exact⟨k+1,by omega,by omega,by go_num,HS.out,HD.out.more _⟩
     case measure=>simp[intOf];omega
    ·have HF:Hid (fN a.data.toList b.data.toList=k):=by
      refine tT k _ _ HT.out uGv uGv (.inr (.inr ?_));rw[vS a k h1,vS b k h2];simpa using h3
     have h5:¬(a[k].toNat:Int)=(b[k].toNat:Int):=fun e=>h3 (uE.1 uAu)
     have h4:((a[k].toNat:Int)==(b[k].toNat:Int))=false:=bJ.2 h5;clear h3;exact Af8
   ·have HF:Hid (fN a.data.toList b.data.toList=k):=
     tT k _ _ HT.out uGv uGv (.inr (.inl uGv))
    have h1':decide ((k:Int)<(a.size:Int))=true:=by simp;omega
    have h2':decide ((k:Int)<(b.size:Int))=false:=by simp;omega
    exact Af8
  ·have HF:Hid (fN a.data.toList b.data.toList=k):=
    tT k _ _ HT.out uGv uGv (.inl uGv)
   have h1':decide ((k:Int)<(a.size:Int))=false:=by simp;omega
   exact Af8
theorem aFn (a b:ByteArray) (k:Nat) (ht:a.data.toList.take k=b.data.toList.take k) (ha:k<=a.size) (hb:k<=b.size):
  (k=a.size->k=b.size->dM a.data.toList b.data.toList=0)/\(k=a.size->¬k=b.size->dM a.data.toList b.data.toList= -1)/\(¬k=a.size->k=b.size->dM a.data.toList b.data.toList=1)/\
  (∀(h1:k<a.size) (h2:k<b.size),((a[k].toNat:Int)<(b[k].toNat:Int)->dM a.data.toList b.data.toList= -1)/\((b[k].toNat:Int)<(a[k].toNat:Int)->dM a.data.toList b.data.toList=1)):=by
 obtain⟨h1,h2,h3,h4⟩:=aKK a.data.toList b.data.toList k ht (by rw[eY];exact ha) (by rw[eY];exact hb);rw[eY,eY]at h1 h2 h3;refine⟨h1,h2,h3,fun g1 g2=> ?_⟩;have:=h4 (by rw[eY];exact g1) (by rw[eY];exact g2);exact⟨fun h=>this.1 (by rw[sY];show a[k].toNat<b[k].toNat;omega),fun h=>this.2 (by rw[sY];show b[k].toNat<a[k].toNat;omega)⟩
theorem aCX (a b:ByteArray) (w:World) (ha:a.size<=maxLen):Calls Tryz.prog 39 #[.string a,.string b] w fun e w'=>e=.returned (.int .i64 (dM a.data.toList b.data.toList))/\vB w w':=by
 have HC:=iH (aGO a b w ha);unfold maxLen at ha;obtain⟨k,hk⟩:∃k,fN a.data.toList b.data.toList=k:=⟨_,rfl⟩
 obtain⟨h1,h2,h3,h4⟩:=aC6 a.data.toList b.data.toList;rw[hk]at h1 h2 h3 h4 HC;rw[eY]at h1 h2;clear hk;obtain⟨o1,o2,o3,o4⟩:=aFn a b k h3 h1 h2;have H4:Hid (∀(g1:k<a.size) (g2:k<b.size),(a[k].toNat:Int)<(b[k].toNat:Int)\/(b[k].toNat:Int)<(a[k].toNat:Int)):=by
  intro g1 g2;rcases h4 with h4|h4|h4
  ·rw[eY]at h4;omega
  ·rw[eY]at h4;omega
  ·rw[vS a k g1,vS b k g2]at h4
   have:¬a[k].toNat=b[k].toNat:=fun e=>h4 (by rw[uE.1 e])
   omega
 have O1:=iH o1;have O2:=iH o2;have O3:=iH o3;have O4:=iH o4;clear o1 o2 o3 o4 h3 h4;by_cases e1:k=a.size<;>by_cases e2:k=b.size
 ·have H:=iH (O1.out e1 e2)
  have b1:((k:Int)==(a.size:Int))=true:=kL.2 uAu;have b2:((k:Int)==(b.size:Int))=true:=kL.2 uAu;have i1:(k:Int)=(a.size:Int):=by omega
  have i2:(k:Int)=(b.size:Int):=by omega
  exact Ac2
 ·have H:=iH (O2.out e1 e2)
  have b1:((k:Int)==(a.size:Int))=true:=kL.2 uAu;have b2:((k:Int)==(b.size:Int))=false:=bJ.2 uAu;have i1:(k:Int)=(a.size:Int):=by omega
  have i2:¬(k:Int)=(b.size:Int):=by omega
  exact Ac2
 ·have H:=iH (O3.out e1 e2)
  have b1:((k:Int)==(a.size:Int))=false:=bJ.2 uAu;have b2:((k:Int)==(b.size:Int))=true:=kL.2 uAu;have i1:¬(k:Int)=(a.size:Int):=by omega
  have i2:(k:Int)=(b.size:Int):=by omega
  exact Ac2
 ·have g1:k<a.size:=by omega
  have g2:k<b.size:=by omega
  have b1:((k:Int)==(a.size:Int))=false:=bJ.2 uAu;have b2:((k:Int)==(b.size:Int))=false:=bJ.2 uAu;have i1:¬(k:Int)=(a.size:Int):=by omega
  have i2:¬(k:Int)=(b.size:Int):=by omega
  clear e1 e2;rcases H4.out g1 g2 with hlt|hlt
  have H:=iH ((O4.out g1 g2).1 hlt)
  rotate_left
  have H:=iH ((O4.out g1 g2).2 hlt)
  have hge:¬(a[k].toNat:Int)<(b[k].toNat:Int):=by omega
  have hge2:(b[k].toNat:Int)<=(a[k].toNat:Int):=by omega
  all_goals
   go_enter Tryz.func39,Tryz.ntmps39;go_wp2_with fail
   refine HC.out.mono ?_;rintro e w1 ⟨rfl,hd⟩;have HD:=iH hd;clear hd;go_wp2_with fail
   go_quiet (fail)
   go_wp2_with fail
   go_ret;exact⟨by rw[H.out];rfl,HD.out.more _⟩
end Go.Proofs.YtengibnpebfblaaGreatDoor
namespace Go.Proofs.YtengibnpebfblaaGreatDoor
open Go.RowKit Go.Shelf
section
variable {P : Program} {md : Region.Mode} {ops : Array Oper} {Q : Exit → Act → World → Prop} {S : World → Prop} {U : List Nat} {n : Nat}
def oZ (n:Nat) (P:Program) (md:Region.Mode) (ops:Array Oper) (Q:Exit->Act->World->Prop) (S:World->Prop) (U:List Nat):Nat->Array Bool->Act->World->Prop
 |0,listed,a,w=>Region.ready md ops listed=[]/\Q .normal a w
 |fuel+1,listed,a,w=>
  (Region.ready md ops listed=[]->Q .normal a w)/\
  ∀i∈Region.ready md ops listed,wpOpIn Fence.wide n P ops Q i (fun a' w'=>(U.contains i=false->S w')/\oZ n P md ops Q S U fuel (listed.setIfInBounds i true) a' w') a w
theorem aB4:∀(fuel:Nat) (listed:Array Bool) (a:Act) (w:World),oZ n P md ops Q S U fuel listed a w->wpAnyIn Fence.wide n P md ops Q fuel listed a w
 |0,_,_,_,h=>h
 |fuel+1,_,_,_,h=>⟨h.1,fun i hi=>wpOpIn_mono (fun a' w' h'=>aB4 fuel _ a' w' h'.2) (h.2 i hi)⟩
structure aEz (n:Nat) (P:Program) (ops:Array Oper) (Q:Exit->Act->World->Prop) (S:World->Prop) (i:Nat) (oi:Oper) (v:Value) (Y:Act->Prop):Prop where
 same:∀a a':Act,Y a->execOp a'.eval oi=execOp a.eval oi->Region.wanted oi (yielded ops a'.tmps)=Region.wanted oi (yielded ops a.tmps)->Y a'
 step:∀(a:Act) (w:World) (K:Act->World->Prop),Y a->S w->K (a.put oi.dst v) w->wpOpIn Fence.wide n P ops Q i K a w
theorem aIj {i j:Nat} {oi oj:Oper} {v:Value} {Y:Act->Prop} (hT:aEz n P ops Q S i oi v Y) (hj:ops[j]? =some oj) (hap:oi.apart ops oj=true)
  (hsi:∀cs b,oi.op≠.select cs b) (hsj:∀cs b,oj.op≠.select cs b)
  (hQ:∀c a w,Q (.panic c) (a.put oi.dst v) w->Q (.panic c) a w) {K:Act->World->Prop} {a:Act} {w:World}
  (hy:Y a) (h:wpOpIn Fence.wide n P ops Q j K (a.put oi.dst v) w):
  wpOpIn Fence.wide n P ops Q j (fun a' w'=>Y a'/\K (a'.put oi.dst v) w') a w:=by
 obtain⟨h1,h2,h3⟩:=Oper.apart_spec hap;have keep:∀(a:Act),Y a->∀u,Y (a.put oj.dst u):=fun a hy u=>
  hT.same _ _ hy (aGo oi hsi a oj.dst u h3) (wanted_put oi a oj.dst u h3)
 have keepD:∀d,Y {a with defers:=d::a.defers}:=fun d=>hT.same _ _ hy rfl rfl
 unfold wpOpIn at*
 simp only[hj]at*
 rw[wanted_put oj a oi.dst v h1]at h;split
 ·rename_i hw
  simp only[hw,if_true]at h;unfold Oper.wpIn at*
  refine⟨fun _ _=>trivial,?_⟩;have h:=h.2;rw[show Fence.wide.round=none from rfl,aCk,aGo oj hsj a oi.dst v h1]at h;rw[show Fence.wide.round=none from rfl,aCk];generalize(execOp a.eval oj).run P w=r at*
  cases r with
  |ok x w'=>
   cases x<;>simp only[Oper.uponIn]at h ⊢
   case value u=>exact⟨keep a hy u,by rw[<-iN a v u h2];exact h⟩
   case skip=>exact⟨keep a hy _,by rw[<-iN a v undef h2];exact h⟩
   case defer d=>
    refine⟨keep _ (keepD d) _,?_⟩;rw[<-iN _ v undef h2,<-Act.put_defers];exact h
   case enter f args=>
    refine⟨h.1,CallsIn.mono h.2 fun e w'' he=> ?_⟩;cases e with
    |returned u=>exact⟨keep a hy u,by rw[<-iN a v u h2];exact he⟩
    |panicked c=>exact hQ _ _ _ he
    |outgrown=>exact he
   case row row args=>exact⟨h.1,RowsIn.mono h.2 fun u w'' he=>⟨keep a hy u,by rw[<-iN a v u h2];exact he⟩⟩
   case round l f tmps assign body=>
    refine⟨h.1,RoundIn.mono h.2 fun e w'' he=> ?_⟩;cases e with
    |returned u=>exact⟨keep a hy u,by rw[<-iN a v u h2];exact he⟩
    |panicked c=>exact hQ _ _ _ he
    |outgrown=>exact he
  |halt x w'=>
   cases x<;>simp only[Oper.uponIn]at h ⊢
   case panic u=>exact hQ _ _ _ h
 ·rename_i hw
  simp only[hw]at h;exact⟨fun _ _=>trivial,keep a hy _,by rw[<-iN a v undef h2];exact h.2⟩
theorem yA {i:Nat} {oi:Oper} {v:Value} {Y:Act->Prop} (hT:aEz n P ops Q S i oi v Y) (hi:ops[i]? =some oi) (hsel:∀(j:Nat) (o:Oper) cs b,ops[j]? =some o->o.op≠.select cs b)
  (hQ:∀c a w,Q (.panic c) (a.put oi.dst v) w->Q (.panic c) a w) (hw:kD md ops U i=true):
  ∀(fuel:Nat) (listed:Array Bool) (a:Act) (w:World),
   (∀j oj,ops[j]? =some oj->j≠i->listed.getD j true=false->(∀e∈oj.after,Region.binds md e=true->e.on≠i)->oi.apart ops oj=true)->
   tY md ops listed->i∈Region.ready md ops listed->Y a->S w->
   oZ n P md ops Q S U fuel (listed.setIfInBounds i true) (a.put oi.dst v) w->oZ n P md ops Q S U (fuel+1) listed a w:=by
 intro fuel;induction fuel with
 |zero=>
  intro listed a w _ _ hr hy hS H;refine⟨fun h=>uEu,fun j hj=> ?_⟩;by_cases hji:j=i
  ·subst hji;exact hT.step _ _ _ hy hS ⟨fun _=>hS,H⟩
  ·have:=jT hj hji
   rw[H.1]at this;cases this
 |succ fuel ih=>
  intro listed a w hfree hcl hr hy hS H;refine⟨fun h=>uEu,fun j hj=> ?_⟩;by_cases hji:j=i
  ·subst hji;exact hT.step _ _ _ hy hS ⟨fun _=>hS,H⟩
  ·have h1:=H.2 j (jT hj hji)
   obtain⟨hjun,oj,hoj,hall⟩:=sZ.1 hj;have hifalse:listed.getD i false=false:=by
    exact Ab5
   have hnot:∀e∈oj.after,Region.binds md e=true->e.on≠i:=fun e he hb heq=>by
    have h1:=hall e he hb;rw[heq,hifalse]at h1;cases h1
   have hnU:U.contains j=false:=by
    exact Af1
   have h2:=aIj hT hoj (hfree j oj hoj hji hjun hnot) (fun cs b=>hsel i oi cs b hi) (fun cs b=>hsel j oj cs b hoj) hQ hy h1;have hfree':∀k ok,ops[k]? =some ok->k≠i->(listed.setIfInBounds j true).getD k true=false->
     (∀e∈ok.after,Region.binds md e=true->e.on≠i)->oi.apart ops ok=true:=fun k ok hk hki hun hno=>by
    refine hfree k ok hk hki ?_ hno;by_cases hjk:j=k
    ·subst hjk;exact hjun
    ·rw[qU true hjk]at hun;exact hun
   refine wpOpIn_mono (fun a' w' h3=>⟨fun hc=>h3.2.1 hc,ih (listed.setIfInBounds j true) a' w' hfree' (xS hcl hj) (jT hr (Ne.symm hji)) h3.1 (h3.2.1 hnU) ?_⟩) h2;rw[pL _ _ hji];exact h3.2.2
theorem aIw {i:Nat} {oi:Oper} {v:Value} (hi:ops[i]? =some oi):aEz n P ops Q S i oi v (YieldsIf P ops S oi v) where
 same _ _ hy he hw:=hy.of_same he hw
 step a w K hy hS h:=by
  unfold wpOpIn;simp only[hi];rcases hy with⟨hw,hv⟩|⟨hw,rfl⟩
  ·rw[if_pos hw]
   unfold Oper.wpIn;refine⟨fun _ _=>trivial,?_⟩;rw[show Fence.wide.round=none from rfl,aCk,hv w hS];exact h
  ·rw[if_neg (by rw[hw];simp)]
   exact⟨fun _ _=>trivial,h⟩
theorem aEY {i:Nat} {oi:Oper} {v:Value} (hi:ops[i]? =some oi):aEz n P ops Q S i oi v (kP P ops S oi v) where
 same _ _ hy he hw:=hy.of_same he hw
 step a w K hy hS h:=by
  obtain⟨hw,hv⟩:=hy;obtain⟨f,args,hrun,hc⟩:=hv w hS;unfold wpOpIn;simp only[hi];rw[if_pos hw];unfold Oper.wpIn;refine⟨fun _ _=>trivial,?_⟩;rw[show Fence.wide.round=none from rfl,aCk,hrun];refine⟨fun hh=>by simp[Fence.wide]at hh,(cY.2 hc).mono ?_⟩;rintro e w' ⟨rfl,rfl⟩;exact h
theorem gI {i:Nat} {oi:Oper} {v:Value} {fuel:Nat} {listed:Array Bool} {a:Act} {w:World} (hi:ops[i]? =some oi)
  (hs:Region.noSelect ops=true) (hf:Region.free md ops listed i=true) (hr:(Region.ready md ops listed).contains i=true) (hw:(kD md ops U i&&nJ md ops listed)=true)
  (hQ:∀c a w,Q (.panic c) (a.put oi.dst v) w->Q (.panic c) a w) (hy:YieldsIf P ops S oi v a) (hS:S w)
  (h:oZ n P md ops Q S U fuel (listed.setIfInBounds i true) (a.put oi.dst v) w):oZ n P md ops Q S U (fuel+1) listed a w:=
 yA (aIw hi) hi (lA hs) hQ (bI.1 hw).1 fuel listed a w (oM hi hf) (sL (bI.1 hw).2) uJz hy hS h
theorem aDz {i:Nat} {oi:Oper} {v:Value} {fuel:Nat} {listed:Array Bool} {a:Act} {w:World} (hi:ops[i]? =some oi)
  (hs:Region.noSelect ops=true) (hf:Region.free md ops listed i=true) (hr:(Region.ready md ops listed).contains i=true) (hw:(kD md ops U i&&nJ md ops listed)=true)
  (hQ:∀c a w,Q (.panic c) (a.put oi.dst v) w->Q (.panic c) a w) (hy:kP P ops S oi v a) (hS:S w)
  (h:oZ n P md ops Q S U fuel (listed.setIfInBounds i true) (a.put oi.dst v) w):oZ n P md ops Q S U (fuel+1) listed a w:=
 yA (aEY hi) hi (lA hs) hQ (bI.1 hw).1 fuel listed a w (oM hi hf) (sL (bI.1 hw).2) uJz hy hS h
theorem qW {listed:Array Bool} {a:Act} {w:World} (hr:Region.ready md ops listed=[]) (h:Q .normal a w):
  ∀fuel,oZ n P md ops Q S U fuel listed a w
 |0=>⟨hr,h⟩
 |_+1=>⟨fun _=>h,by rw[hr];simp⟩
theorem wJ {id:Nat} {a:Act} {w:World} (U:List Nat) (hm:P.follows .mixedOrders=true) (hS:S w.drew)
  (h:S w.drew->oZ n P .any ops Q S U ops.size (Array.replicate ops.size false) a w.drew):(Code.region id ops true).wpIn Fence.wide n P Q a w:=
 wpIn_region_any hm (aB4 _ _ _ _ (h hS))
theorem mS {fuel:Nat} {listed:Array Bool} {a:Act} {w:World} {i:Nat} {o:Oper} (hr:Region.ready md ops listed=[i]) (hU:U.contains i=true) (ho:ops[i]? =some o)
  (h:∀K':Act->World->Prop,Shut (∀a w,oZ n P md ops Q S U fuel (listed.setIfInBounds i true) a w->K' a w)->if Region.wanted o (yielded ops a.tmps)=true then Oper.wpIn Fence.wide n P o a w K' Q else(∀f,o.about P w a.eval=some f->Fence.wide.fn f)/\K' (a.put o.dst undef) w):
  oZ n P md ops Q S U (fuel+1) listed a w:=by
 refine⟨fun h0=>absurd (hr▸h0) uBu,fun j hj=> ?_⟩;rw[hr]at hj;obtain rfl:j=i:=by simpa using hj
 exact wpOpIn_step ho (fun K' hK=>h K' (fun a w hW=>hK a w ⟨(fun hc=>absurd (hU.symm.trans hc) uAv),hW⟩))
end
end Go.Proofs.YtengibnpebfblaaGreatDoor
namespace Go.Proofs.YtengibnpebfblaaGreatDoor
open Go.RowKit
abbrev Rw:=Nat->Option Int
structure Ok (R:Rw):Prop where
 off:∀i,32<=i->R i=none
 inr:∀i n,R i=some n→ -9223372036854775808<=n/\n<=9223372036854775807
def noR:Rw:=fun _=>none
theorem Ok.no:Ok noR:=⟨fun _ _=>rfl,fun _ _ h=>by cases h⟩
def onP (i:Int):Bool:=decide (0<=i/\i<32)
theorem aKN {i:Int} (h:onP i=true):∃j:Nat,i=(j:Int)/\j<32:=by
 have h':0<=i/\i<32:=by simpa[onP]using h
 exact⟨i.toNat,by omega,by omega⟩
theorem aNr {j:Nat} (h:j<32):onP (j:Int)=true:=by simp[onP];omega
def aKd (R:Rw) (i x:Int):Rw:=if onP i=true then fun j=>if j=i.toNat then some x else R j else R
def aLA (R:Rw) (i:Int):Rw:=if onP i=true then fun j=>if j=i.toNat then none else R j else R
theorem aNG {R:Rw} {j:Nat} (x:Int) (h:j<32):aKd R (j:Int) x=fun k=>if k=j then some x else R k:=by unfold aKd;rw[if_pos (aNr h)];rfl
theorem aOa {R:Rw} {j:Nat} (h:j<32):aLA R (j:Int)=fun k=>if k=j then none else R k:=by unfold aLA;rw[if_pos (aNr h)];rfl
theorem aMu {R:Rw} {i x:Int} (h:¬onP i=true):aKd R i x=R:=by unfold aKd;rw[if_neg h]
theorem aN4 {R:Rw} {i:Int} (h:¬onP i=true):aLA R i=R:=by unfold aLA;rw[if_neg h]
theorem Ok.set {R:Rw} (h:Ok R) (i x:Int) (hx: -9223372036854775808<=x/\x<=9223372036854775807):Ok (aKd R i x):=by
 by_cases ho:onP i=true
 ·obtain⟨j,rfl,hj⟩:=aKN ho
  rw[aNG x hj];refine⟨fun k hk=> ?_,fun k n hn=> ?_⟩
  ·show(if k=j then some x else R k)=none
   rw[if_neg uAu];exact h.off k hk
  ·replace hn:(if k=j then some x else R k)=some n:=hn
   split at hn
   ·cases hn;exact hx
   ·exact h.inr k n hn
 ·rw[aMu ho];exact h
theorem Ok.cut {R:Rw} (h:Ok R) (i:Int):Ok (aLA R i):=by
 by_cases ho:onP i=true
 ·obtain⟨j,rfl,hj⟩:=aKN ho
  rw[aOa hj];refine⟨fun k hk=> ?_,fun k n hn=> ?_⟩
  ·show(if k=j then none else R k)=none
   split
   ·rfl
   ·exact h.off k hk
  ·replace hn:(if k=j then none else R k)=some n:=hn
   split at hn
   ·cases hn
   ·exact h.inr k n hn
 ·rw[aN4 ho];exact h
def aNd (b i:Nat):Bool:=b/2^i % 2==1
def rkN (b:Nat):Nat->Nat
 |0=>0
 |k+1=>rkN b k+(if aNd b k=true then 1 else 0)
theorem aFc (b:Nat):∀k,rkN b k<=k
 |0=>aE _
 |k+1=>by have:=aFc b k;unfold rkN;split<;>omega
theorem sU (b i:Nat):aNd b i=b.testBit i:=by
 unfold aNd;rw[Nat.testBit_eq_decide_div_mod_eq];rfl
theorem aO6 {a b:Nat} (ha:a<2^32) (hb:b<2^32) (h:∀i,i<32->a.testBit i=b.testBit i):a=b:=by
 apply Nat.eq_of_testBit_eq;intro i;by_cases hi:i<32
 ·exact h i hi
 ·rw[Nat.testBit_lt_two_pow (cQ ha (uD uAv uAu)),Nat.testBit_lt_two_pow (cQ hb (uD uAv uAu))]
theorem aAO (op:BinOp) (a b n:Nat) (hn:n<2^32) (h:∀i,i<32->(match op with
  | .and=>BitVec.ofNat 32 a&&&BitVec.ofNat 32 b
  | .or=>BitVec.ofNat 32 a|||BitVec.ofNat 32 b
  | .xor=>BitVec.ofNat 32 a^^^BitVec.ofNat 32 b
  |_=>BitVec.ofNat 32 a&&&~~~(BitVec.ofNat 32 b)).getLsbD i=n.testBit i):bits op .u32 (a:Int) (b:Int)=(n:Int):=by
 unfold bits;show IntKind.u32.wrap _=_;have e:(match op with
  | .and=>BitVec.ofInt 32 (a:Int)&&&BitVec.ofInt 32 (b:Int)
  | .or=>BitVec.ofInt 32 (a:Int)|||BitVec.ofInt 32 (b:Int)
  | .xor=>BitVec.ofInt 32 (a:Int)^^^BitVec.ofInt 32 (b:Int)
  |_=>BitVec.ofInt 32 (a:Int)&&&~~~(BitVec.ofInt 32 (b:Int))).toNat=n:=by
  simp only[BitVec.ofInt_natCast];apply aO6 (BitVec.isLt _) hn;intro i hi;rw[BitVec.testBit_toNat];exact h i hi
 rw[aJG];have hn2:n<4294967296:=hn;refine Eq.trans (bH (fun m:Nat=>(m:Int) % 4294967296) e) ?_;omega
theorem aE5 {a:Nat} {i:Nat} (hi:i<32):(BitVec.ofNat 32 a).getLsbD i=a.testBit i:=by
 rw[BitVec.getLsbD_ofNat];simp[hi]
theorem aEx (a b:Nat) (ha:a<2^32):bits .and .u32 (a:Int) (b:Int)=((a&&&b:Nat):Int):=
 aAO .and a b _ (jD Nat.and_le_left ha) fun i hi=>by simp only[BitVec.getLsbD_and,aE5 hi,aCl]
theorem aKp {b c:Nat}:∀{k:Nat},(∀i,i<k->b.testBit i=c.testBit i)->rkN b k=rkN c k
 |0,_=>rfl
 |k+1,h=>by
  unfold rkN;rw[aKp (k:=k) (fun i hi=>h i uAu),sU,sU,h k uAu]
theorem aHB {b:Nat} {i:Nat}:∀{k:Nat},i<=k->(∀j,i<=j->j<k->b.testBit j=false)->rkN b k=rkN b i
  |0,h,_=>by obtain rfl:i=0:=uAu;rfl
  |k+1,h,h2=>by
   by_cases e:i=k+1
   ·subst e;rfl
   ·rw[<-aHB (k:=k) (i:=i) uAu fun j a c=>h2 j a uAu]
    conv=>lhs;unfold rkN
    rw[sU,h2 k uAu uAu];simp
theorem aKo (b i:Nat) (hi:i<=32):rkN (b&&&(2^i-1)) 32=rkN b i:=by
 rw[aHB hi fun j h1 _=>by rw[aCl,vY];simp;omega];exact aKp fun j hj=>by rw[aCl,vY];simp[hj]
theorem aDU (b m:Nat):∀k,rkN b (m+k)=rkN b m+rkN (b/2^m) k
 |0=>rfl
 |k+1=>by
  show rkN b (m+k)+_=_+(rkN (b/2^m) k+_)
  rw[aDU b m k,tZ,sU,sU,Nat.testBit_div_two_pow,aB2 k m];rfl
theorem aGN (b:Nat):rkN (b % 256) 8=rkN b 8:=aKp fun i hi=>by
 rw[show(256:Nat)=2^8 by decide,Nat.testBit_mod_two_pow];simp[hi]
theorem aKq (b:Nat):rkN b 32=rkN (b/16777216) 8+rkN (b/65536 % 256) 8+rkN (b/256 % 256) 8+rkN (b % 256) 8:=by
 rw[show(32:Nat)=8+(8+(8+8)) by decide,aDU,aDU,aDU,aGN,aGN,aGN,Nat.div_div_eq_div_mul,Nat.div_div_eq_div_mul];simp only[Nat.reducePow,Nat.reduceMul];omega
theorem aBo {i:Nat} (hi:i<32):List.range 32=List.range i++([i]++(List.range (31-i)).map (i+1+ ·)):=by
 rw[show(32:Nat)=(i+1)+(31-i) by omega,List.range_add,aCm];simp
def nR (b p:Nat):Nat:=b/2^p*2^p
theorem aA2 (b p i:Nat):(nR b p).testBit i=(decide (p<=i)&&b.testBit i):=by
 unfold nR;rw[aAC,Nat.testBit_div_two_pow];by_cases h:p<=i
 ·simp[h]
 ·simp[h]
theorem aJ5 (b:Nat):nR b 0=b:=by simp[nR]
theorem aHL {b:Nat} (p:Nat) (h:b<2^32):nR b p<2^32:=jD (Nat.div_mul_le_self b (2^p)) h
end Go.Proofs.YtengibnpebfblaaGreatDoor
