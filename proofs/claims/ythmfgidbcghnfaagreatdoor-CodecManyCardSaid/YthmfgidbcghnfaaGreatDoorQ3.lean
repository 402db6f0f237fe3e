import Derived.Test.YthmfgidbcghnfaaGreatDoorQ0
import Derived.Test.YthmfgidbcghnfaaGreatDoorQ2
set_option maxRecDepth 1000000
set_option maxHeartbeats 8000000
set_option linter.unusedSimpArgs false
namespace Go.Proofs.YthmfgidbcghnfaaGreatDoor
open Go.RowKit
def bv (l:List UInt8):List Value:=l.map fun c=>.int .u8 (c.toNat:Int)
theorem aJO (l:List UInt8):(bv l).length=l.length:=by simp[bv]
theorem aJP (l r:List UInt8):bv (l++r)=bv l++bv r:=by simp[bv]
theorem aQ7 {l:List UInt8}:∀u∈bv l,u.oneCell'=true:=by
 intro u hu;unfold bv at hu;rw[dH]at hu;obtain⟨c,_,rfl⟩:=hu;rfl
def Buf (B:Nat) (v:Value) (l:List UInt8) (w:World):Prop:=w.ownsRowF B 5 1 v l.length (bv l)/\B<=w.heap.size
section
variable {B : Nat} {v : Value} {l : List UInt8} {w w1 : World}
theorem Buf.nil (h:B<=w.heap.size):Buf B (.slice none 0 0) [] w:=⟨lM _ _ _ _,h⟩
theorem Buf.lit (hB:B<=w.heap.size) (cs:Array Value) (l:List UInt8) (hc:cs.toList=bv l) (Ha:l.length<=4096):
  Buf B (.slice (some ⟨w.heap.size,0,none⟩) l.length l.length) l (w.alloc (.cells cs 5)):=by
 have hl:l.length<=maxLen:=by unfold maxLen;omega
 have hs:cs.size=l.length*1:=by rw[<-bM,hc,aJO];omega
 refine⟨?_,by simp;omega⟩;have:=oP (oO (base:=B) (e:=5) (size:=1) w cs l.length hB hl hs);rwa[hc]at this
theorem Below.after {w w1 w2:World} (h1:Below w.heap.size w w1) (h2:Below w1.heap.size w1 w2):Below w.heap.size w w2:=tW h1 h2
theorem Buf.drewN (h:Buf B v l w) (n:Nat):Buf B v l (w.drewN n):=h
theorem Buf.alloc (h:Buf B v l w) (o:Obj):Buf B v l (w.alloc o):=⟨h.1.alloc o,by have:=h.2;simp;omega⟩
theorem Buf.drew (h:Buf B v l w):Buf B v l w.drew:=h
theorem Buf.low {B':Nat} (h:Buf B v l w) (hB:B'<=B):Buf B' v l w:=by
 exact Af6
theorem Buf.later (h:Buf B v l w) (hb:Below w.heap.size w w1):Buf B v l w1:=by
 obtain⟨⟨h1,h2⟩,h3⟩:=h;refine⟨⟨h1,?_⟩,aI h3 hb.size⟩;rcases h2 with h2|⟨g,cap,aj,fz,a1,a2,a3,a4⟩
 ·exact .inl h2
 ·have hg:g<w.heap.size:=by
   rcases eB g w.heap.size with hlt|qq
   ·exact hlt
   ·rw[Array.getElem?_eq_none qq]at a3;cases a3
  exact .inr ⟨g,cap,aj,fz,a1,a2,(hb.block g hg).trans a3,a4⟩
theorem Buf.src (h:Buf B v l w) (hn:l≠[]):∃ad c,v=.slice (some ad) l.length c/\∀j u,(bv l)[j]? =some u->w.cell? (ad.add j)=some u:=by
 exact Ae3
theorem Buf.str (h:Buf B v l w):(convert 72 9 v).run Tryz.prog w=.ok (.string ⟨l.toArray⟩) w:=by
 by_cases hn:l=[]
 ·subst hn
  obtain⟨⟨h1,h2⟩,_⟩:=h;rcases h2 with⟨rfl,_⟩|⟨g,cap,aj,fz,rfl,a2,a3,a4⟩
  ·rw[run_convert_bytes_string w 72 9 5 none 0 0 Tryz.underlying72 Tryz.underlying5 Tryz.underlying9]
   rfl
  ·exact rU (P:=Tryz.prog) w 72 9 5 ⟨g,0,none⟩ cap [] Tryz.underlying72 Tryz.underlying5 Tryz.underlying9 (fun j hj=>by simp at hj)
 ·obtain⟨ad,c,rfl,hc⟩:=h.src hn
  refine rU (P:=Tryz.prog) w 72 9 5 ad c l Tryz.underlying72 Tryz.underlying5 Tryz.underlying9 (fun j hj=>hc j _ ?_);simp[bv,hj]
theorem Buf.len (h:Buf B v l w):∃a c,v=.slice a l.length c:=by
 exact Ah9
end
theorem aBs:(Tryz.prog.info? 5).map (fun i=>(i.zero,i.size,i.bytes))=some (some (.int .u8 0),1,1):=by kernel_rfl
theorem aQ8 {o:Oper} {a:Act} {K:Act->World->Prop} {Q:Exit->Act->World->Prop} {w:World} (s x:Operand)
  (ho:o.op=.call {callee:=.builtin .append,args:=#[s,x],argTypes:=#[72,72]})
  {B:Nat} {v:Value} {l:List UInt8} (hs:a.eval s=v) (hb:Buf B v l w) (r:List UInt8) (ad:Addr) (c:Nat) (hx:a.eval x=.slice (some ad) r.length c)
  (hc:∀j u,(bv r)[j]? =some u->w.cell? (ad.add j)=some u) (an:l.length+r.length<=140737488355328)
  (h:∀v' w',Buf B v' (l++r) w'->Below B w w'->K (a.put o.dst v') w'):o.wp Tryz.prog a w K Q:=by
 obtain⟨i,hi,hz,h1,h2⟩:=dO aBs;obtain⟨v',w',hr,g1,g2,_⟩:=uX (P:=Tryz.prog) w B 72 o.type 5 i (.int .u8 0) 1 1 Tryz.underlying72 hi hz h1 h2 rfl uAv v l.length (bv l) hb.1 ad r.length c (bv r) (by rw[aJO];omega) hc aQ7
  uCx hO hb.2
 unfold Oper.wp execOp;simp only[ho,resolve,invoke,builtin,eG,eZ,cR,iE,cA,gY,hs,hx,hr];refine h v' w' ⟨by rw[aB,aJP];exact g1,aI hb.2 g2.size⟩ ?_;exact(bB _ _).grown g2 hb.2 (fun k hk=>(hb.1.lt k hk).1)
theorem aJQ {ops:Array Oper} {rest:List Oper} {o:Oper} {a:Act} {Q:Exit->Act->World->Prop} {w:World} (fj:o.guard=none) (s x:Operand)
  (ho:o.op=.call {callee:=.builtin .append,args:=#[s,x],argTypes:=#[72,72]})
  {B:Nat} {v:Value} {l:List UInt8} (hs:a.eval s=v) (hb:Buf B v l w) (r:List UInt8) (ad:Addr) (c:Nat) (hx:a.eval x=.slice (some ad) r.length c)
  (hc:∀j u,(bv r)[j]? =some u->w.cell? (ad.add j)=some u) (an:l.length+r.length<=140737488355328)
  (h:∀v' w',Buf B v' (l++r) w'->Below B w w'->wpList Tryz.prog ops Q rest (a.put o.dst v') w'):wpList Tryz.prog ops Q (o::rest) a w:=
 gC fj fun _ hK=>aQ8 s x ho hs hb r ad c hx hc an fun v' w' h1 h2=>hK _ _ (h v' w' h1 h2)
theorem aQ9 {ops:Array Oper} {o:Oper} {a:Act} {K:Act->World->Prop} {Q:Exit->Act->World->Prop} {E:Prop} {w:World} (fj:o.guard=none) (s x:Operand)
  (ho:o.op=.call {callee:=.builtin .append,args:=#[s,x],argTypes:=#[72,72]})
  {B:Nat} {v:Value} {l:List UInt8} (hs:a.eval s=v) (hb:Buf B v l w) (r:List UInt8) (ad:Addr) (c:Nat) (hx:a.eval x=.slice (some ad) r.length c)
  (hc:∀j u,(bv r)[j]? =some u->w.cell? (ad.add j)=some u) (an:l.length+r.length<=140737488355328)
  (h:∀v' w',Buf B v' (l++r) w'->Below B w w'->K (a.put o.dst v') w'):if Region.wanted o (yielded ops a.tmps)=true then Oper.wp Tryz.prog o a w K Q else E:=by
 have hw:Region.wanted o (yielded ops a.tmps)=true:=by simp[Region.wanted,fj]
 rw[if_pos hw];exact aQ8 s x ho hs hb r ad c hx hc an h
theorem aAq (w:World) (r:List UInt8) (cs:Array Value) (ep:cs=(bv r).toArray):∀j u,(bv r)[j]? =some u->(w.alloc (.cells cs 5)).cell? ((⟨w.heap.size,0,none⟩:Addr).add j)=some u:=by
 exact Ag3
theorem cT {ops:Array Oper} {rest:List Oper} {o:Oper} {a:Act} {Q:Exit->Act->World->Prop} {w:World} (fj:o.guard=none) (s x:Operand)
  (ho:o.op=.call {callee:=.builtin .append,args:=#[s,x],argTypes:=#[72,72]})
  {B:Nat} {v:Value} {l:List UInt8} (hs:a.eval s=v) (hb:Buf B v l w) (r:List UInt8) (cs:Array Value) (ep:cs=(bv r).toArray) (n c:Nat) (hn:n=r.length) (hx:a.eval x=.slice (some ⟨w.heap.size,0,none⟩) n c)
  (an:l.length+r.length<=140737488355328)
  (h:∀v' w',Buf B v' (l++r) w'->Below B w w'->wpList Tryz.prog ops Q rest (a.put o.dst v') w'):wpList Tryz.prog ops Q (o::rest) a (w.alloc (.cells cs 5)):=by
 subst hn;exact aJQ fj s x ho hs (hb.alloc _) r ⟨w.heap.size,0,none⟩ c hx (aAq w r cs ep) an fun v' w' h1 h2=>h v' w' h1 (((bB _ _).alloc hb.2 _).trans h2)
end Go.Proofs.YthmfgidbcghnfaaGreatDoor
namespace Go.Proofs.YthmfgidbcghnfaaGreatDoor
open Go.RowKit
theorem vG (a c:Nat):IntKind.u64.wrap ((a:Int)*(c:Int))=((a*c % 18446744073709551616:Nat):Int):=by
 rw[jL,<-Int.natCast_mul];omega
theorem aGL (a c:Nat):IntKind.u64.wrap ((a:Int)+(c:Int))=(((a+c) % 18446744073709551616:Nat):Int):=by
 rw[jL];omega
theorem aKV (a c:Nat):(a:Int)/(c:Int)=((a/c:Nat):Int):=(aNj a c).symm
theorem tS {x y:Int} (h:x=y):Ending.returned (.int .u64 x)=.returned (.int .u64 y):=by rw[h]
theorem aKe {x y:Int} (h:x=y):Ending.returned (.int .i64 x)=.returned (.int .i64 y):=by rw[h]
theorem aR4 (t:Nat) (ht:t<18446744073709551616):
  bits .or .u64 (IntKind.u64.wrap ((t:Int)*2147483648)) ((t:Int)/8589934592)=(aR5 t:Int):=by
 have e1:=vG t 2147483648;have e2:=aKV t 8589934592;have e3:=bits_or_u64_nat (t*2147483648 % 18446744073709551616) (t/8589934592) (tJ _ uAv) hO;rw[<-e1,<-e2]at e3;exact e3
theorem aPl (h:Nat) (hh:h<18446744073709551616):bits .xor .u64 (h:Int) ((h:Int)/4294967296)=(xY h:Int):=
 xorShift_u64 h 4294967296 hh
theorem aOB (x:Nat) (hx:x<18446744073709551616) (w:World):
  Calls Tryz.prog 258 #[.int .u64 (x:Int),.int .i64 31] w fun e w'=>e=.returned (.int .u64 (aR5 x:Int))/\w=w':=by
 have H:=eU (aR4 x hx);have hb:bits BinOp.and IntKind.u64 31 63=31:=by decide
 go_enter Tryz.func258,Tryz.ntmps258;go_wp2
 go_ret;exact⟨tS H.out,rfl⟩
theorem aHC (h:Nat) (hh:h<18446744073709551616) (w:World):
  Calls Tryz.prog 259 #[.int .u64 (h:Int)] w fun e w'=>e=.returned (.int .u64 (xY h:Int))/\w=w':=by
 have H:=eU (aPl h hh);go_enter Tryz.func259,Tryz.ntmps259;go_wp2
 go_ret;exact⟨tS H.out,rfl⟩
theorem aNm (h x:Nat) (hh:h<18446744073709551616) (hx:x<18446744073709551616):
  IntKind.u64.wrap (bits .xor .u64 (h:Int) (x:Int)*11400714819323198485)=(aK8 (h^^^x):Int):=by
 rw[bits_xor_u64_nat h x hh hx];exact vG _ 11400714819323198485
theorem aHD (h x:Nat) (hh:h<18446744073709551616) (hx:x<18446744073709551616) (w:World):
  Calls Tryz.prog 214 #[.int .u64 (h:Int),.int .u64 (x:Int)] w fun e w'=>e=.returned (.int .u64 (aK9 h x:Int))/\w=w':=by
 have h1:=aNm h x hh hx;have H2:=eU (aGL (aR5 (aK8 (h^^^x))) 15485907386658061715);have l:aK8 (h^^^x)<18446744073709551616:=tJ _ uAv;have L:=eU l;clear l hh hx;go_enter Tryz.func214,Tryz.ntmps214;go_wp2_with fail
 refine(aOB _ L.out w).mono ?_;rintro e w1 ⟨rfl,rfl⟩;go_wp2_with fail
 go_ret;exact⟨tS H2.out,rfl⟩
theorem aRq (h:Nat) (hh:h<18446744073709551616) (w:World):
  Calls Tryz.prog 216 #[.int .u64 (h:Int)] w fun e w'=>e=.returned (.int .u64 (aRX h:Int))/\w=w':=by
 have h1:=vG (xY h) 15485907386658061715;have l:xY h*15485907386658061715 % 18446744073709551616<18446744073709551616:=tJ _ uAv;obtain⟨m,hm⟩:∃m,m=xY h*15485907386658061715 % 18446744073709551616:=⟨_,rfl⟩
 rw[<-hm]at h1 l;have h2:IntKind.u64.wrap ((xY h:Int)*15485907386658061715)=(m:Int):=h1;have E:=eU (show aRX h=xY m by rw[hm];rfl);have L:=eU l;have HH:=eU hh;clear hm h1 l hh;go_enter Tryz.func216,Tryz.ntmps216;go_wp2_with fail
 refine(aHC _ HH.out w).mono ?_;rintro e w1 ⟨rfl,rfl⟩;go_wp2_with fail
 refine(aHC _ L.out w).mono ?_;rintro e w1 ⟨rfl,rfl⟩;go_wp2_with fail
 go_ret;exact⟨tS (by rw[E.out]),rfl⟩
end Go.Proofs.YthmfgidbcghnfaaGreatDoor
namespace Go.Proofs.YthmfgidbcghnfaaGreatDoor
open Go.RowKit Go.Shelf
attribute [local go_sem] fS
theorem yC {P:Program} {Q:Exit->Act->World->Prop} {n:Nat} {o:Oper} {a:Act} {w:World} {K:Act->World->Prop} (hd:∀c,o.op≠.defer c) (h:o.wp P a w K Q):o.wpIn Fence.wide n P a w K Q:=by
 unfold Oper.wpIn;refine⟨fun _ _=>trivial,?_⟩;rw[Oper.semAt_eq _ _ _ hd];unfold Oper.wp at h;generalize(execOp a.eval o).run P w=r at h ⊢;cases r with
 |ok x w'=>
  cases x with
  |value v=>exact h
  |skip=>exact h
  |defer d=>exact h
  |enter f args=>exact⟨fun hh=>by simp[Fence.wide]at hh,dD.2 h⟩
  |row row args=>exact⟨fun hh=>by simp[Fence.wide]at hh,fun c cs _=>by obtain⟨v,w',r,s⟩:=h c cs;exact⟨v,w',r,stepsIn_wide.2 s⟩⟩
  |_=>exact h.elim
 |halt x w'=>
  cases x with
  |panic v=>exact h
  |_=>exact h.elim
theorem zJ {ops:Array Oper} {rest:List Oper} {o:Oper} {a:Act} {w:World} {Q:Exit->Act->World->Prop} {n:Nat} (fj:o.guard=none) (ty:TypeId) (x:Operand) (ho:o.op=.load ty x)
  (X:Nat) (hx:a.eval x=.pointer (some ⟨X,0,none⟩)) (T:TypeId) (c:Array Value) (fr:Nat×Nat) (d:TypeDesc) (hB:w.heap[X]? =some (.cells c T fr))
  (hu:Tryz.prog.underlying ty=some d) (hd:d.isRow=true) (hi:(Tryz.prog.info? ty).map (·.size)=some c.size)
  (h:wpListIn Fence.wide n Tryz.prog ops Q rest (a.put o.dst (.agg c)) w):wpListIn Fence.wide n Tryz.prog ops Q (o::rest) a w:=
 aF6 fj fun _ hK=>yC (fun c' hc=>by rw[ho]at hc;cases hc) (wp_load_row ty x ho X hx T c fr d hB hu uIv hi (hK _ _ h))
end Go.Proofs.YthmfgidbcghnfaaGreatDoor
namespace Go.Proofs.YthmfgidbcghnfaaGreatDoor
open Go.RowKit
section
variable {P : Program} {md : Region.Mode} {ops : Array Oper} {Q : Exit → Act → World → Prop} {S : World → Prop} {U : List Nat}
def eL (P:Program) (md:Region.Mode) (ops:Array Oper) (Q:Exit->Act->World->Prop) (S:World->Prop) (U:List Nat):Nat->Array Bool->Act->World->Prop
 |0,listed,a,w=>Region.ready md ops listed=[]/\Q .normal a w
 |fuel+1,listed,a,w=>
  (Region.ready md ops listed=[]->Q .normal a w)/\
  ∀i∈Region.ready md ops listed,wpOp P ops Q i (fun a' w'=>(U.contains i=false->S w')/\eL P md ops Q S U fuel (listed.setIfInBounds i true) a' w') a w
theorem yD:∀(fuel:Nat) (listed:Array Bool) (a:Act) (w:World),eL P md ops Q S U fuel listed a w->wpAny P md ops Q fuel listed a w
 |0,_,_,_,h=>h
 |fuel+1,_,_,_,h=>⟨h.1,fun i hi=>wpOp_mono (fun a' w' h'=>yD fuel _ a' w' h'.2) (h.2 i hi)⟩
def aBL (md:Region.Mode) (ops:Array Oper) (i:Nat):Nat->Nat->Bool
 |0,_=>false
 |n+1,j=>match ops[j]? with|some o=>o.after.any fun e=>Region.binds md e&&(e.on==i||aBL md ops i n e.on)|none=>false
def kZ (md:Region.Mode) (ops:Array Oper) (U:List Nat) (i:Nat):Bool:=U.all fun j=>aBL md ops i ops.size j
def uL (md:Region.Mode) (ops:Array Oper) (listed:Array Bool):Prop:=
 ∀k ok,ops[k]? =some ok->listed.getD k false=true->∀e∈ok.after,Region.binds md e=true->listed.getD e.on false=true
def oM (md:Region.Mode) (ops:Array Oper) (listed:Array Bool):Bool:=
 (List.range ops.size).all fun k=> !listed.getD k false||(match ops[k]? with|some o=>o.after.all fun e=> !Region.binds md e||listed.getD e.on false|none=>true)
theorem sY {listed:Array Bool} (h:oM md ops listed=true):uL md ops listed:=by
 intro k ok hk hl e he hb;unfold oM at h;rw[lI]at h;have h1:=h k (by rw[jZ];exact(Array.getElem?_eq_some_iff.1 hk).1);rw[hl,hk]at h1;simp only[Bool.not_true,Bool.false_or]at h1;rw[cD]at h1;have h2:=h1 e he;rw[hb]at h2;simpa using h2
theorem aE5 {i:Nat} {listed:Array Bool} (hc:uL md ops listed) (hi:listed.getD i false=false):∀(n j:Nat),aBL md ops i n j=true->listed.getD j false=true->False
 |0,_,h,_=>by cases h
 |n+1,j,h,hl=>by
  unfold aBL at h;cases hj:ops[j]? with
  |none=>rw[hj]at h;cases h
  |some o=>
   rw[hj]at h;simp only at h;rw[Array.any_eq_true]at h;obtain⟨k,hk,h2⟩:=h;rw[eQ,vD,eK]at h2;have K5:=hc j o hj hl _ (Array.getElem_mem hk) h2.1;rcases h2.2 with h3|h3
   ·rw[h3,hi]at K5;cases K5
   ·exact aE5 hc hi n _ h3 K5
theorem aAN {i j:Nat} {listed:Array Bool} (h:kZ md ops U i=true) (hc:uL md ops listed) (hi:listed.getD i false=false) (hU:U.contains j=true) (hj:j∈Region.ready md ops listed):False:=by
 unfold kZ at h;rw[lI]at h;have h1:=h j (by simpa using hU);obtain⟨_,oj,r8,hall⟩:=xS.1 hj;cases hn:ops.size with
 |zero=>rw[hn]at h1;cases h1
 |succ n=>
  rw[hn]at h1;unfold aBL at h1;rw[r8]at h1;simp only at h1;rw[Array.any_eq_true]at h1;obtain⟨k,hk,h2⟩:=h1;rw[eQ,vD,eK]at h2;have K5:=hall _ (Array.getElem_mem hk) h2.1;rcases h2.2 with h3|h3
  ·rw[h3,hi]at K5;cases K5
  ·exact aE5 hc hi n _ h3 K5
theorem yN {j:Nat} {listed:Array Bool} (hc:uL md ops listed) (hj:j∈Region.ready md ops listed):uL md ops (listed.setIfInBounds j true):=by
 obtain⟨_,oj,r8,hall⟩:=xS.1 hj;intro k ok hk hl e he hb;by_cases qt:j=k
 ·subst qt
  rw[r8]at hk;obtain rfl:=aH hk;exact getD_set_true (hall e he hb)
 ·rw[aF9 false qt]at hl
  exact getD_set_true (hc k ok hk hl e he hb)
theorem aFf {i:Nat} {oi:Oper} {v:Value} (hi:ops[i]? =some oi) (ob:∀(j:Nat) (o:Oper) cs b,ops[j]? =some o->o.op≠.select cs b)
  (hQ:∀c a w,Q (.panic c) (a.put oi.dst v) w->Q (.panic c) a w) (hw:kZ md ops U i=true):
  ∀(fuel:Nat) (listed:Array Bool) (a:Act) (w:World),
   (∀j oj,ops[j]? =some oj->j≠i->listed.getD j true=false->(∀e∈oj.after,Region.binds md e=true->e.on≠i)->oi.apart ops oj=true)->
   uL md ops listed->i∈Region.ready md ops listed->YieldsIf P ops S oi v a->S w->
   eL P md ops Q S U fuel (listed.setIfInBounds i true) (a.put oi.dst v) w->eL P md ops Q S U (fuel+1) listed a w:=by
 intro fuel;induction fuel with
 |zero=>
  intro listed a w _ _ hr hy hS H;refine⟨fun h=>uEw,fun j hj=> ?_⟩;by_cases ga:j=i
  ·subst ga;exact hy.wpOp hi hS ⟨fun _=>hS,H⟩
  ·have:=kN hj ga
   rw[H.1]at this;cases this
 |succ fuel ih=>
  intro listed a w jk mq hr hy hS H;refine⟨fun h=>uEw,fun j hj=> ?_⟩;by_cases ga:j=i
  ·subst ga;exact hy.wpOp hi hS ⟨fun _=>hS,H⟩
  ·have h1:=H.2 j (kN hj ga)
   obtain⟨mg,oj,r8,hall⟩:=xS.1 hj;have dw:listed.getD i false=false:=by
    exact Ab4
   have u7:∀e∈oj.after,Region.binds md e=true->e.on≠i:=fun e he hb heq=>by
    have h1:=hall e he hb;rw[heq,dw]at h1;cases h1
   have K6:U.contains j=false:=by
    exact Ag1
   have h2:=wpOp_putIf r8 (jk j oj r8 ga mg u7) (fun cs b=>ob i oi cs b hi) (fun cs b=>ob j oj cs b r8) hQ hy h1;exact Ab3
theorem aAM {i:Nat} {oi:Oper} {v:Value} {fuel:Nat} {listed:Array Bool} {a:Act} {w:World} (hi:ops[i]? =some oi)
  (hs:Region.noSelect ops=true) (hf:Region.free md ops listed i=true) (hr:(Region.ready md ops listed).contains i=true) (hw:(kZ md ops U i&&oM md ops listed)=true)
  (hQ:∀c a w,Q (.panic c) (a.put oi.dst v) w->Q (.panic c) a w) (hy:YieldsIf P ops S oi v a) (hS:S w)
  (h:eL P md ops Q S U fuel (listed.setIfInBounds i true) (a.put oi.dst v) w):eL P md ops Q S U (fuel+1) listed a w:=
 aFf hi (mA hs) hQ (bH.1 hw).1 fuel listed a w (pR hi hf) (sY (bH.1 hw).2) uNv hy hS h
theorem tkA (i d:Nat) {x1 x2 x3 x4 x5:_} {v:Value} {fuel:Nat} {listed:Array Bool} {a:Act} {w:World} (hi:ops[i]? =some ⟨some d,x1,x2,x3,x4,x5⟩:=by rfl) (hq:(Region.noSelect ops&&Region.free md ops listed i&&(Region.ready md ops listed).contains i&&(kZ md ops U i&&oM md ops listed))=true:=by kernel_rfl) (hQ:∀c a w,Q (.panic c) (a.put (some d) v) w->Q (.panic c) a w:=by exact fun _ _ _ h=>h) (hg:Region.wanted ⟨some d,x1,x2,x3,x4,x5⟩ (yielded ops a.tmps)=true:=by rfl) (hv:∀w,S w->(execOp a.eval ⟨some d,x1,x2,x3,x4,x5⟩).run P w=.ok (.value v) w:=by(intro w jy;(try dsimp only at jy);first|(go_simp;done)|(go_simp;with_reducible rfl))) (hS:S w:=by assumption) (h:eL P md ops Q S U fuel (listed.setIfInBounds i true) (a.put (some d) v) w):eL P md ops Q S U (fuel+1) listed a w:=
 have h1:=bH.1 hq;have h2:=bH.1 h1.1;have h3:=bH.1 h2.1
 aAM hi h3.1 h3.2 h2.2 h1.2 hQ (Or.inl ⟨hg,hv⟩) hS h
theorem tyA (i d:Nat) {x1 x2 x3 x4 x5:_} {v:Value} {fuel:Nat} {listed:Array Bool} {a:Act} {w:World} (hi:ops[i]? =some ⟨some d,x1,x2,x3,x4,x5⟩:=by rfl) (hq:(Region.noSelect ops&&Region.free md ops listed i&&(Region.ready md ops listed).contains i&&(kZ md ops U i&&oM md ops listed))=true:=by kernel_rfl) (hQ:∀c a w,Q (.panic c) (a.put (some d) v) w->Q (.panic c) a w:=by exact fun _ _ _ h=>h) (hy:YieldsIf P ops S ⟨some d,x1,x2,x3,x4,x5⟩ v a) (hS:S w:=by assumption) (h:eL P md ops Q S U fuel (listed.setIfInBounds i true) (a.put (some d) v) w):eL P md ops Q S U (fuel+1) listed a w:=
 have h1:=bH.1 hq;have h2:=bH.1 h1.1;have h3:=bH.1 h2.1
 aAM hi h3.1 h3.2 h2.2 h1.2 hQ hy hS h
theorem bJ {listed:Array Bool} {a:Act} {w:World} (hr:Region.ready md ops listed=[]) (h:Q .normal a w):
  ∀fuel,eL P md ops Q S U fuel listed a w
 |0=>⟨hr,h⟩
 |_+1=>⟨fun _=>h,by rw[hr];simp⟩
theorem bO {id:Nat} {a:Act} {w:World} (U:List Nat) (hm:P.follows .mixedOrders=true) (hS:S w.drew)
  (h:S w.drew->eL P .any ops Q S U ops.size (Array.replicate ops.size false) a w.drew):(Code.region id ops true).wp P Q a w:=
 wp_region_any hm (yD _ _ _ _ (h hS))
theorem aIQ {fuel:Nat} {listed:Array Bool} {a:Act} {w:World} {i:Nat} {o:Oper} (hr:Region.ready md ops listed=[i]) (ho:ops[i]? =some o)
  (h:∀K':Act->World->Prop,Shut (∀a w,S w->(S w->eL P md ops Q S U fuel (listed.setIfInBounds i true) a w)->K' a w)->if Region.wanted o (yielded ops a.tmps)=true then Oper.wp P o a w K' Q else K' (a.put o.dst undef) w):
  eL P md ops Q S U (fuel+1) listed a w:=by
 refine⟨fun h0=>absurd (hr▸h0) uAy,fun j hj=> ?_⟩;rw[hr]at hj;obtain rfl:j=i:=by simpa using hj
 exact wpOp_step ho (fun K' hK=>h K' (fun a w hS hW=>hK a w ⟨fun _=>hS,hW hS⟩))
theorem tkO (i:Nat) (d:Option Nat) {x1 x2 x3 x4 x5:_} {fuel:Nat} {listed:Array Bool} {a:Act} {w:World} (hr:Region.ready md ops listed=[i]:=by kernel_rfl) (ho:ops[i]? =some ⟨d,x1,x2,x3,x4,x5⟩:=by rfl) (h:∀K':Act->World->Prop,Shut (∀a w,S w->(S w->eL P md ops Q S U fuel (listed.setIfInBounds i true) a w)->K' a w)->if Region.wanted ⟨d,x1,x2,x3,x4,x5⟩ (yielded ops a.tmps)=true then Oper.wp P ⟨d,x1,x2,x3,x4,x5⟩ a w K' Q else K' (a.put d undef) w):eL P md ops Q S U (fuel+1) listed a w:=aIQ hr ho h
theorem aGD {fuel:Nat} {listed:Array Bool} {a:Act} {w:World} {i:Nat} {o:Oper} (hr:Region.ready md ops listed=[i]) (hU:U.contains i=true) (ho:ops[i]? =some o)
  (h:∀K':Act->World->Prop,Shut (∀a w,eL P md ops Q S U fuel (listed.setIfInBounds i true) a w->K' a w)->if Region.wanted o (yielded ops a.tmps)=true then Oper.wp P o a w K' Q else K' (a.put o.dst undef) w):
  eL P md ops Q S U (fuel+1) listed a w:=by
 refine⟨fun h0=>absurd (hr▸h0) uAy,fun j hj=> ?_⟩;rw[hr]at hj;obtain rfl:j=i:=by simpa using hj
 exact wpOp_step ho (fun K' hK=>h K' (fun a w hW=>hK a w ⟨(fun hc=>absurd (hU.symm.trans hc) uAv),hW⟩))
theorem tkU (i:Nat) (d:Option Nat) {x1 x2 x3 x4 x5:_} {fuel:Nat} {listed:Array Bool} {a:Act} {w:World} (hr:Region.ready md ops listed=[i]:=by kernel_rfl) (hU:U.contains i=true:=by decide) (ho:ops[i]? =some ⟨d,x1,x2,x3,x4,x5⟩:=by rfl) (h:∀K':Act->World->Prop,Shut (∀a w,eL P md ops Q S U fuel (listed.setIfInBounds i true) a w->K' a w)->if Region.wanted ⟨d,x1,x2,x3,x4,x5⟩ (yielded ops a.tmps)=true then Oper.wp P ⟨d,x1,x2,x3,x4,x5⟩ a w K' Q else K' (a.put d undef) w):eL P md ops Q S U (fuel+1) listed a w:=aGD hr hU ho h
def jJ (P:Program) (md:Region.Mode) (ops:Array Oper) (Q:Exit->Act->World->Prop) (S:World->Prop) (U:List Nat) (fuel:Nat) (listed:Array Bool) (a:Act) (w:World) (rs:List Nat):Prop:=
 ∀i∈rs,wpOp P ops Q i (fun a' w'=>(U.contains i=false->S w')/\eL P md ops Q S U fuel (listed.setIfInBounds i true) a' w') a w
theorem jJ.nil {fuel:Nat} {listed:Array Bool} {a:Act} {w:World}:jJ P md ops Q S U fuel listed a w []:=fun _ h=>by cases h
theorem jJ.cons {fuel:Nat} {listed:Array Bool} {a:Act} {w:World} {i:Nat} {o:Oper} {rs:List Nat} (ho:ops[i]? =some o)
  (h:∀K':Act->World->Prop,Shut (∀a w,S w->(S w->eL P md ops Q S U fuel (listed.setIfInBounds i true) a w)->K' a w)->if Region.wanted o (yielded ops a.tmps)=true then Oper.wp P o a w K' Q else K' (a.put o.dst undef) w)
  (hs:jJ P md ops Q S U fuel listed a w rs):jJ P md ops Q S U fuel listed a w (i::rs):=fun j hj=>by
 rcases bL.1 hj with rfl|hj
 ·exact wpOp_step ho (fun K' hK=>h K' (fun a w hS hW=>hK a w ⟨fun _=>hS,hW hS⟩))
 ·exact hs j hj
theorem fU {rs:List Nat} {fuel:Nat} {listed:Array Bool} {a:Act} {w:World} (hr:Region.ready md ops listed=rs) (bn:rs≠[])
  (h:jJ P md ops Q S U fuel listed a w rs):eL P md ops Q S U (fuel+1) listed a w:=⟨fun h0=>absurd (hr▸h0) bn,hr▸h⟩
theorem aJ {op:Oper} {a:Act} (hw:Region.wanted op (yielded ops a.tmps)=true) (ty:TypeId) (x:Operand) (ho:op.op=.load ty x)
  (X:Nat) (hx:a.eval x=.pointer (some ⟨X,0,none⟩)) (c:Array Value) (T:TypeId) (fr:Nat×Nat) (d:TypeDesc) (hS:∀w,S w->w.heap[X]? =some (.cells c T fr))
  (hu:P.underlying ty=some d) (hd:d.isRow=true) (hi:(P.info? ty).map (·.size)=some c.size):YieldsIf P ops S op (.agg c) a:=
 .inl ⟨hw,fun w FX=>by
  unfold execOp;simp only[ho,hx,Instr.loadAt,Instr.sureAddr,eG,eZ,cR,run_loadVar_row w X T ty c fr d (hS w FX) hu uIv hi]⟩
end
end Go.Proofs.YthmfgidbcghnfaaGreatDoor
namespace Go.Proofs.YthmfgidbcghnfaaGreatDoor
open Go.RowKit
theorem aR {P:Program} {fn:Func} {p u:Tmp} {ty:TypeId} (h:fn.results=#[.cell p ty,.tmp u]) (tmps:Array Value) (w:World) (g:Nat) (t:TypeId) (cs:Array Value) (fr:Nat×Nat) (d:TypeDesc)
  (hp:tmps.getD p undef=.pointer (some ⟨g,0,none⟩)) (hg:w.heap[g]? =some (.cells cs t fr))
  (hu:P.underlying ty=some d) (hd:(match d with| .struct _| .array _ _=>true|_=>false)=true) (hi:(P.info? ty).map (·.size)=some cs.size):
  (results fn tmps).run P w=.ok (.tuple #[.agg cs,tmps.getD u undef]) w:=by
 have wt:tmps[p]?.getD undef=.pointer (some ⟨g,0,none⟩):=by simpa using hp
 simp[results,h,wt,asAddr,run_loadVar_row w g t ty cs fr d hg hu hd hi]
def bW (B:Nat) (e:TypeId) (s:Nat) (v:Value) (cs:List (Array Value)) (w:World):Prop:=
 w.ownsRowF B e s v cs.length (cs.flatMap Array.toList)/\B<=w.heap.size/\∀c∈cs,c.size=s
theorem xH (s:Nat):∀cs:List (Array Value),(∀c∈cs,c.size=s)->(cs.flatMap Array.toList).length=cs.length*s
 |[],_=>by simp
 |c::cs,h=>by
  rw[cC,aB,xH s cs (fun x hx=>h x (bF _ hx)),bM,h c (aZ ..),aD,fJ];omega
theorem zP (s:Nat):∀(cs:List (Array Value)) (i k:Nat) (c:Array Value),(∀c∈cs,c.size=s)->cs[i]? =some c->k<s->(cs.flatMap Array.toList)[i*s+k]? =c[k]?
 |[],_,_,_,_,h,_=>by simp at h
 |a::cs,0,k,c,hs,h,hk=>by
  simp at h;subst h;have:=hs a (aZ ..);rw[cC,List.getElem?_append_left uCy];simp
 |a::cs,i+1,k,c,hs,h,hk=>by
  have ha:=hs a (aZ ..);rw[cC,List.getElem?_append_right (by simp[ha,fJ];omega),bM,ha,
   show(i+1)*s+k-s=i*s+k by rw[fJ];omega]
  exact zP s cs i k c (fun x hx=>hs x (bF _ hx)) uDu hk
section
variable {B : Nat} {e : TypeId} {s : Nat} {v : Value} {cs : List (Array Value)} {w w' : World}
theorem bW.grown {row:Option Nat} (h:bW B e s v cs w) (hg:w.grownBy w' row) (bn:v.ownBlock=none\/v.ownBlock≠row):bW B e s v cs w':=
 ⟨h.1.kept hg bn,aI h.2.1 hg.size,h.2.2⟩
theorem bW.later (h:bW B e s v cs w) (hb:Below w.heap.size w w'):bW B e s v cs w':=h.grown (row:=none) ⟨hb.os,hb.tape,hb.output,hb.size,fun k hk _=>hb.block k hk⟩ uGx
theorem bW.at_ (h:bW B e s v cs w) (hn:cs≠[]):∃g cap aj fz,v=.slice (some ⟨g,0,none⟩) cs.length cap/\v.ownBlock=some g/\B<=g/\w.heap[g]? =some (.cells aj e fz):=by
 obtain⟨⟨_,h2⟩,_,_⟩:=h;rcases h2 with⟨_,h2⟩|⟨g,cap,aj,fz,rfl,a2,a3,_⟩
 ·exact absurd (aQ h2) hn
 ·exact⟨g,cap,aj,fz,rfl,rfl,a2,a3⟩
theorem bW.but {X:Nat} (h:bW B e s v cs w) (hn:cs≠[]) (k:iL X w w') (hX:X<B):bW B e s v cs w':=by
 obtain⟨g,cap,aj,fz,_,h2,h3,_⟩:=h.at_ hn;exact h.grown k.by_ (.inr (by rw[h2];simp;omega))
theorem bW.apart {e':TypeId} {s':Nat} {v':Value} {Jc:List (Array Value)} (h:bW B e s v cs w) (hn:cs≠[]) (h':bW B e' s' v' Jc w) (nb:Jc≠[]) (hT:e≠e') (hg:w.grownBy w' v'.ownBlock):bW B e s v cs w':=by
 obtain⟨g,cap,aj,fz,_,h2,_,h4⟩:=h.at_ hn;obtain⟨g',qu,tl,MH,_,Hd,_,gn⟩:=h'.at_ nb;refine h.grown hg (.inr ?_);rw[h2,Hd];intro x;obtain rfl:=aH x;rw[h4]at gn;simp only[bA,dK]at gn;exact hT gn.2.1
theorem bW.read (h:bW B e s v cs w) {g cap n i:Nat} (hv:v=.slice (some ⟨g,0,none⟩) n cap) {c:Array Value} (hc:cs[i]? =some c):w.rangeAt g (i*s) c.toList:=by
 obtain⟨hr,_,hs⟩:=h;intro j u hu;have ep:c.size=s:=hs c (fK hc);have hj:j<s:=by have:=(List.getElem?_eq_some_iff.1 hu).1;simp at this;omega
 have h1:=zP s cs i j c hs hc hj;have h2:(cs.flatMap Array.toList)[i*s+j]? =some u:=by rw[h1];simpa using hu
 have o9:=hr;rcases hr.2 with⟨h3,_⟩|⟨g',qu,aj,fz,h3,_⟩
 ·rw[hv]at h3;cases h3
 ·rw[hv]at h3
  simp only[eJ,bA,mE]at h3;obtain⟨⟨rfl,_,_⟩,rfl,rfl⟩:=h3;have h4:=o9.cells (by rw[hv];rfl) _ u h2;have e:(⟨g,0,none⟩:Addr).add (i*s+j)=⟨g,i*s+j,none⟩:=by unfold Addr.add;split<;>simp_all
  rw[e]at h4;exact h4
end
theorem aIx {o:Oper} {a:Act} {w:World} {K:Act->World->Prop} {Q:Exit->Act->World->Prop} (t e:TypeId) (y:Operand) (ho:o.op=.buildSlice t 1 #[(0,y)]) (c:Array Value) (s:Nat) (z:Value)
  (hy:a.eval y=.agg c) (hc:c.size=s) (hs:0<s) (ed:s<=4096) (hu:Tryz.prog.underlying t=some (.slice e)) (hi:(Tryz.prog.info? e).map (fun i=>(i.size,i.zero))=some (s,some z))
  (h:∀w',w'.heap[w.heap.size]? =some (.cells c e (0,0))->Below w.heap.size w w'->w'.heap.size=w.heap.size+1->K (a.put o.dst (.slice (some ⟨w.heap.size,0,none⟩) 1 1)) w'):o.wp Tryz.prog a w K Q:=by
 cases hq:Tryz.prog.info? e with
 |none=>simp[hq]at hi
 |some i=>
  simp only[hq,aDr,bA,cZ]at hi;obtain⟨r,r1,r2,r3⟩:=Great.fill_dense hs [.agg c] 0 ((Array.range (1*i.size)).map (z.cells[· % z.cells.size]!)) (fun v hv=>by simp at hv;subst hv;exact hc) (by simp[hi.1]);have e1:r=c:=by
   apply Array.ext_getElem?;intro k;rw[r3 k];by_cases hk:k<s
   ·rw[if_pos ⟨by omega,by simp;omega⟩,Nat.div_eq_of_lt hk,Nat.mod_eq_of_lt hk]
    simp[Value.cells]
   ·rw[if_neg uCy,Array.getElem?_eq_none (by simp[hi.1];omega),Array.getElem?_eq_none hO]
  subst e1;refine wp_buildSlice t e 1 _ ho r i z hu hq hi.2 (by rw[hi.1];omega) (by rw[hi.1];omega) ?_ ?_
  ·rw[<-hi.1]at r1
   simpa[hy]using r1
  ·refine h _ (aC w _) (Below.newly' _ _) uAy
theorem aR2 {o:Oper} {a:Act} {K:Act->World->Prop} {Q:Exit->Act->World->Prop} {w:World} (t e:TypeId) (p q:Operand)
  (ho:o.op=.call {callee:=.builtin .append,args:=#[p,q],argTypes:=#[t,t]})
  {B s by_:Nat} {z v:Value} {cs:List (Array Value)} {c:Array Value} (hs:a.eval p=v) (hb:bW B e s v cs w) (g:Nat) (hx:a.eval q=.slice (some ⟨g,0,none⟩) 1 1)
  (hg:w.heap[g]? =some (.cells c e (0,0))) (hc:c.size=s) (h1:c.all (·.oneCell')=true) (hu:Tryz.prog.underlying t=some (.slice e)) (hi:(Tryz.prog.info? e).map (fun i=>(i.zero,i.size,i.bytes))=some (some z,s,by_))
  (mr:z.cells.size=s) (de:0<s) (an:cs.length<=100000) (zh:by_<=1000000)
  (h:∀v' w',bW B e s v' (cs++[c]) w'->w.grownBy w' v.ownBlock->K (a.put o.dst v') w'):o.wp Tryz.prog a w K Q:=by
 obtain⟨i,K7,hz,h2,h3⟩:=dO hi;have gr:∀j u,c.toList[j]? =some u->w.cell? ((⟨g,0,none⟩:Addr).add j)=some u:=fun j u hj=>by
  exact Ai0
 have eu:(cs.length+1)*by_<=140737488355328:=by
  have:(cs.length+1)*by_<=100001*1000000:=Nat.mul_le_mul hO zh;omega
 obtain⟨v',w',hr,g1,g2,_⟩:=uX (P:=Tryz.prog) w B t o.type e i z s by_ hu K7 hz h2 h3 mr de v cs.length (cs.flatMap Array.toList) hb.1 ⟨g,0,none⟩ 1 1 c.toList (by simp[hc]) gr
  (fun u hu=>(cD.1 h1) u uPy) uCx eu hb.2.1
 unfold Oper.wp execOp;simp only[ho,resolve,invoke,builtin,eG,eZ,cR,iE,cA,gY,hs,hx,hr];refine h v' w' ⟨?_,aI hb.2.1 g2.size,fun x hx=> ?_⟩ g2
 ·rw[aB,gN]
  simpa using g1
 ·exact Aj9
section
variable {B : Nat} {e : TypeId} {s : Nat} {v : Value} {cs : List (Array Value)} {w w' : World}
theorem bW.own (h:bW B e s v cs w):v.ownBlock=none\/∃g aj fz,v.ownBlock=some g/\B<=g/\w.heap[g]? =some (.cells aj e fz):=by
 obtain⟨⟨_,h2⟩,_,_⟩:=h;exact Ai8
theorem bW.keeps (h:bW B e s v cs w) (hg:w.grownBy w' v.ownBlock) {X:Nat} {o:Obj} (hX:X<B) (ho:w.heap[X]? =some o):w'.heap[X]? =some o:=by
 refine(hg.block X (gZ ho) ?_).trans ho;exact Al3
theorem bW.keepsT (h:bW B e s v cs w) (hg:w.grownBy w' v.ownBlock) {Y:Nat} {c:Array Value} {T:TypeId} {fr:Nat×Nat} (hT:e≠T) (ho:w.heap[Y]? =some (.cells c T fr)):w'.heap[Y]? =some (.cells c T fr):=by
 exact Ae5
theorem bW.typed' (h:bW B e s v cs w):∀X,v.ownBlock=some X->∃cs fr,w.heap[X]? =some (.cells cs e fr):=by
 intro X hX;rcases h.own with h1|⟨g,aj,fz,h1,_,h3⟩
 ·rw[h1]at hX;cases hX
 ·rw[h1]at hX
  obtain rfl:=aH hX;exact⟨aj,fz,h3⟩
theorem bW.typed (h:bW B e s v cs w) (hT:e≠3):∀X,v.ownBlock=some X->∃cs T fr,w.heap[X]? =some (.cells cs T fr)/\T≠3:=by
 intro X hX;rcases h.own with h1|⟨g,aj,fz,h1,_,h3⟩
 ·rw[h1]at hX;cases hX
 ·rw[h1]at hX
  obtain rfl:=aH hX;exact⟨aj,e,fz,h3,hT⟩
theorem bW.below (h:bW B e s v cs w) (hg:w.grownBy w' v.ownBlock) {X:Nat} (hX:X<=B) (hw:X<=w.heap.size):Below X w w':=by
 refine⟨hg.os,hg.tape,hg.output,hg.size,fun k hk=>hg.block k hO ?_⟩;exact Al3
end
theorem dX {ops:Array Oper} {S:World->Prop} {op:Oper} {a:Act} (hw:Region.wanted op (yielded ops a.tmps)=true) (ty:TypeId) (y:Operand) (ho:op.op=.load ty y)
  (b k:Nat) (hx:a.eval y=.pointer (some ⟨b,k,none⟩)) (c:Array Value) (d:TypeDesc) (hS:∀w,S w->w.rangeAt b k c.toList) (hu:Tryz.prog.underlying ty=some d) (hd:d.isRow=true) (hi:(Tryz.prog.info? ty).map (·.size)=some c.size):YieldsIf Tryz.prog ops S op (.agg c) a:=by
 have h:=aLi (P:=Tryz.prog) hw ty y ho b k hx c.toList d hS hu hd (by rw[hi];simp);simpa using h
theorem nJ {w w':World} {b o:Nat} {cs:List Value} (h:w.rangeAt b o cs) (hb:Below w.heap.size w w'):w'.rangeAt b o cs:=fun j v hv=>(hb.cell (aO w _ (h j v hv))).trans (h j v hv)
theorem aGh {ops:Array Oper} {rest:List Oper} {o:Oper} {a:Act} {w:World} {Q:Exit->Act->World->Prop} (fj:o.guard=none) (t e:TypeId) (y:Operand) (ho:o.op=.buildSlice t 1 #[(0,y)]) (c:Array Value) (s:Nat) (z:Value)
  (hy:a.eval y=.agg c) (hc:c.size=s) (hs:0<s) (ed:s<=4096) (hu:Tryz.prog.underlying t=some (.slice e)) (hi:(Tryz.prog.info? e).map (fun i=>(i.size,i.zero))=some (s,some z))
  (h:∀w',w'.heap[w.heap.size]? =some (.cells c e (0,0))->Below w.heap.size w w'->w'.heap.size=w.heap.size+1->wpList Tryz.prog ops Q rest (a.put o.dst (.slice (some ⟨w.heap.size,0,none⟩) 1 1)) w'):wpList Tryz.prog ops Q (o::rest) a w:=
 gC fj fun _ hK=>aIx t e y ho c s z hy hc hs ed hu hi fun w' h1 h2 h3=>hK _ _ (h w' h1 h2 h3)
theorem sI {ops:Array Oper} {rest:List Oper} {o:Oper} {a:Act} {Q:Exit->Act->World->Prop} {w:World} (fj:o.guard=none) (t e:TypeId) (p q:Operand)
  (ho:o.op=.call {callee:=.builtin .append,args:=#[p,q],argTypes:=#[t,t]})
  {B s by_:Nat} {z v:Value} {cs:List (Array Value)} {c:Array Value} (hs:a.eval p=v) (hb:bW B e s v cs w) (g:Nat) (hx:a.eval q=.slice (some ⟨g,0,none⟩) 1 1)
  (hg:w.heap[g]? =some (.cells c e (0,0))) (hc:c.size=s) (h1:c.all (·.oneCell')=true) (hu:Tryz.prog.underlying t=some (.slice e)) (hi:(Tryz.prog.info? e).map (fun i=>(i.zero,i.size,i.bytes))=some (some z,s,by_))
  (mr:z.cells.size=s) (de:0<s) (an:cs.length<=100000) (zh:by_<=1000000)
  (h:∀v' w',bW B e s v' (cs++[c]) w'->w.grownBy w' v.ownBlock->wpList Tryz.prog ops Q rest (a.put o.dst v') w'):wpList Tryz.prog ops Q (o::rest) a w:=
 gC fj fun _ hK=>aR2 t e p q ho hs hb g hx hg hc h1 hu hi mr de an zh fun v' w' h1 h2=>hK _ _ (h v' w' h1 h2)
end Go.Proofs.YthmfgidbcghnfaaGreatDoor
namespace Go.Proofs
open Go.Shelf
def Tryz.searchL_ren:Go.Shelf.Ren:=⟨fun|14=>217|n=>n,fun|22=>132|24=>211|29=>9|32=>300|3=>3|4=>4|35=>240|0=>0|n=>n,fun|n=>n⟩
theorem Tryz.searchL:Go.Proofs.SlLaysG2.n14 Tryz.prog Tryz.searchL_ren:={
 mixed:=by kernel_rfl
 f14:=⟨Tryz.f217.name,by decide,Tryz.func217.trans (aU some uAu)⟩
 t0:=Tryz.underlying0
 a0:=Tryz.isAgg0
 z0:=Tryz.sizeOf0
 v0:=Tryz.zeroValue0
 t3:=Tryz.underlying3
 a3:=Tryz.isAgg3
 z3:=Tryz.sizeOf3
 v3:=Tryz.zeroValue3
 t4:=Tryz.underlying4
 a4:=Tryz.isAgg4
 z4:=Tryz.sizeOf4
 v4:=Tryz.zeroValue4
 t22:=Tryz.underlying132
 a22:=Tryz.isAgg132
 z22:=Tryz.sizeOf132
 v22:=Tryz.zeroValue132
 a24:=Tryz.isAgg211
 z24:=Tryz.sizeOf211
 a29:=Tryz.isAgg9
 z29:=Tryz.sizeOf9
 t32:=Tryz.underlying300
 a32:=Tryz.isAgg300
 z32:=Tryz.sizeOf300
 v32:=Tryz.zeroValue300
 t35:=Tryz.underlying240
 a35:=Tryz.isAgg240
 z35:=Tryz.sizeOf240
 v35:=Tryz.zeroValue240}
end Go.Proofs
