import Derived.Test.YthmfgidbcghnfaaGreatDoorQ0
import Derived.Test.YthmfgidbcghnfaaGreatDoorQ1
set_option maxRecDepth 1000000
set_option maxHeartbeats 8000000
set_option linter.unusedSimpArgs false
namespace Go.Proofs.YthmfgidbcghnfaaGreatDoor
open Go.RowKit
structure iL (X:Nat) (w w':World):Prop where
 by_:w.grownBy w' (some X)
 size:w'.heap.size=w.heap.size
theorem iL.refl (X:Nat) (w:World):iL X w w:=⟨⟨rfl,rfl,rfl,aA _,fun _ _ _=>rfl⟩,rfl⟩
theorem iL.below {X B:Nat} {w w':World} (h:iL X w w') (hB:B<=X):Below B w w':=
 ⟨h.by_.os,h.by_.tape,h.by_.output,h.by_.size,fun k hk=>by
  by_cases hlt:k<w.heap.size
  ·exact h.by_.block k hlt uCy
  ·have hz:=h.size
   rw[Array.getElem?_eq_none hO,Array.getElem?_eq_none hO]⟩
theorem iL.trans {X:Nat} {a b c:World} (h:iL X a b) (k:iL X b c):iL X a c:=
 ⟨⟨k.by_.os.trans h.by_.os,k.by_.tape.trans h.by_.tape,k.by_.output.trans h.by_.output,aI h.by_.size k.by_.size,fun i hi bn=>(k.by_.block i (bK hi h.by_.size) bn).trans (h.by_.block i hi bn)⟩,k.size.trans h.size⟩
theorem iL.other {X Y:Nat} {w w':World} {o:Obj} (h:iL X w w') (hy:w.heap[Y]? =some o) (bn:Y≠X):w'.heap[Y]? =some o:=
 (h.by_.block Y (gZ hy) (by simpa using fun e=>bn e)).trans hy
theorem iI (w:World) (X:Nat) (c:Array Value):iL X w (w.setRow X c):=by
 refine⟨⟨rfl,rfl,rfl,by simp[World.setRow],fun j hj bn=> ?_⟩,by simp[World.setRow]⟩;simp only[World.setRow];rw[Array.getElem?_modify];split
 ·subst_vars;simp at bn
 ·rfl
theorem aG {W:World} {X:Nat} {c:Array Value} {T:TypeId} {fr:Nat×Nat} (h:W.heap[X]? =some (.cells c T fr)) {j:Nat} {v:Value} (hv:c[j]? =some v):W.cell? ⟨X,j,none⟩=some v:=by
 rw[cell_of_row W X j c T fr h,hv]
theorem aV {ops:Array Oper} {rest:List Oper} {o:Oper} {a:Act} {w:World} {Q:Exit->Act->World->Prop} (fj:o.guard=none) (ty:TypeId) (x y:Operand) (ho:o.op=.store ty x y)
  (X:Nat) (c':Array Value) (hx:a.eval x=.pointer (some ⟨X,0,none⟩)) (hy:a.eval y=.agg c') (T:TypeId) (c:Array Value) (hB:w.heap[X]? =some (.cells c T (0,0)))
  (hi:(Tryz.prog.info? ty).map (·.size)=some c'.size) (hs:c.size=c'.size) (h1:c'.all (·.oneCell')=true)
  (h:∀w',w'.heap[X]? =some (.cells c' T (0,0))->iL X w w'->wpList Tryz.prog ops Q rest (a.put o.dst undef) w'):wpList Tryz.prog ops Q (o::rest) a w:=
 gC fj fun _ hK=>wp_store_row ty x y ho X _ hx hy T _ hB hi hs h1 (hK _ _ (h _ (lY w X _ _ _ _ hB) (iI _ _ _)))
theorem eC {o:Oper} {a:Act} {w:World} {K:Act->World->Prop} {Q:Exit->Act->World->Prop} (ty:TypeId) (x y:Operand) (ho:o.op=.store ty x y)
  (X:Nat) (c':Array Value) (hx:a.eval x=.pointer (some ⟨X,0,none⟩)) (hy:a.eval y=.agg c') (T:TypeId) (c:Array Value) (hB:w.heap[X]? =some (.cells c T (0,0)))
  (hi:(Tryz.prog.info? ty).map (·.size)=some c'.size) (hs:c.size=c'.size) (h1:c'.all (·.oneCell')=true)
  (h:∀w',w'.heap[X]? =some (.cells c' T (0,0))->iL X w w'->K (a.put o.dst undef) w'):o.wp Tryz.prog a w K Q:=
 wp_store_row ty x y ho X _ hx hy T _ hB hi hs h1 (h _ (lY w X _ _ _ _ hB) (iI _ _ _))
theorem lX (w:World) (g k:Nat) (T ty:TypeId) (aj:Array Value) (v:Value) (hg:w.heap[g]? =some (.cells aj T (0,0))) (hk:k<aj.size) (hi:(Tryz.prog.info? ty).map (·.size)=some 1)
  (h1:v.oneCell'=true):(storeVar ty ⟨g,k,none⟩ v).run Tryz.prog w=.ok () (w.setRow g (aj.setIfInBounds k v)):=by
 have:=lZ (P:=Tryz.prog) g k T [v] 0 aj w hg uCy (fun x hx=>by simp at hx;subst hx;exact h1);have hc:v.cells=#[v]:=by cases v<;>first|rfl|cases h1
 have e:(aj.toList.take (k+0)++[v]++aj.toList.drop (k+0+[v].length)).toArray=aj.setIfInBounds k v:=by
  apply Array.ext_getElem?;intro i;simp only[jV,aD,aK,List.getElem?_toArray,Array.getElem?_setIfInBounds];rw[bG,List.getElem?_append];simp only[bQ,bM];by_cases h:i<k
  ·rw[if_pos hO,List.getElem?_take_of_lt h,if_neg hO]
   simp
  ·rw[if_neg hO]
   by_cases h':i=k
   ·subst h'
    rw[if_pos rfl,if_pos hk,show i-min i aj.size=0 by omega];simp
   ·rw[if_neg hO,show i-min k aj.size=(i-k-1)+1 by omega]
    simp only[nY,List.getElem?_cons_succ,List.getElem?_drop];rw[show k+(0+1)+(i-k-1)=i by omega];simp
 rw[e]at this;cases hq:Tryz.prog.info? ty with
 |none=>simp[hq]at hi
 |some i=>
  have hs:i.size=1:=by simpa[hq]using hi
  simp[storeVar,sizeOf,typeInfo,hq,hc,hs,this]
theorem lP {ops:Array Oper} {rest:List Oper} {o:Oper} {a:Act} {w:World} {Q:Exit->Act->World->Prop} (fj:o.guard=none) (ty:TypeId) (x y:Operand) (ho:o.op=.store ty x y)
  (X k:Nat) (v:Value) (hx:a.eval x=.pointer (some ⟨X,k,none⟩)) (hy:a.eval y=v) (h1:v.oneCell'=true) (T:TypeId) (c:Array Value) (hB:w.heap[X]? =some (.cells c T (0,0)))
  (hi:(Tryz.prog.info? ty).map (·.size)=some 1) (hk:k<c.size)
  (h:∀w',w'.heap[X]? =some (.cells (c.setIfInBounds k v) T (0,0))->iL X w w'->wpList Tryz.prog ops Q rest (a.put o.dst undef) w'):wpList Tryz.prog ops Q (o::rest) a w:=
 gC fj fun _ hK=>by
  unfold Oper.wp execOp;simp only[ho,hx,hy,Instr.storeAt,Instr.sureAddr,eG,eZ,cR,lX w X k T ty c v hB hk hi h1];exact Am2
theorem aW {ops:Array Oper} {rest:List Oper} {o:Oper} {a:Act} {w:World} {Q:Exit->Act->World->Prop} (j9:Region.wanted o (yielded ops a.tmps)=true) (ty:TypeId) (x:Operand) (ho:o.op=.load ty x)
  (X:Nat) (hx:a.eval x=.pointer (some ⟨X,0,none⟩)) (T:TypeId) (c:Array Value) (fr:Nat×Nat) (d:TypeDesc) (hB:w.heap[X]? =some (.cells c T fr))
  (hu:Tryz.prog.underlying ty=some d) (hd:d.isRow=true) (hi:(Tryz.prog.info? ty).map (·.size)=some c.size)
  (h:wpList Tryz.prog ops Q rest (a.put o.dst (.agg c)) w):wpList Tryz.prog ops Q (o::rest) a w:=
 wpList_step fun _ hK=>by
  rw[if_pos j9];exact wp_load_row ty x ho X hx T c fr d hB hu uIv hi (hK _ _ h)
theorem iJ (a:List UInt8):¬a<a:=List.lt_irrefl a
theorem zD (a b:List UInt8):jA a b= -1\/jA a b=0\/jA a b=1:=by
 unfold jA;split
 ·exact .inr (.inl rfl)
 ·split
  ·exact .inl rfl
  ·exact .inr (.inr rfl)
theorem aHo (a b:List UInt8):jA a b=0↔a=b:=by
 unfold jA;split
 ·simp[*]
 ·split<;>simp[*]
theorem vN (a b:List UInt8):jA a b= -1↔a<b:=by
 unfold jA;split
 ·rename_i h;subst h;simp[iJ]
 ·split<;>simp[*]
theorem aK6 (a b:List UInt8) (h:¬a=b):a<b\/b<a:=by
 rcases List.le_total a b with h1|h1
 ·rcases aBJ (a<b)with h2|h2
  ·exact .inl h2
  ·exact absurd (aNh h1 (List.not_lt.1 h2)) h
 ·rcases aBJ (b<a)with h2|h2
  ·exact .inr h2
  ·exact absurd (aNh (List.not_lt.1 h2) h1) h
theorem aRM (n:Nat) (h:n<16):(hxD n).toNat=if n<10 then 48+n else 87+n:=by
 unfold hxD;split
 ·exact Ai5
 ·exact Ai5
theorem aHW (n:Nat) (h:n<16) (g:Bool):hval (hxD n) g=n:=by
 unfold hval;rw[aRM n h];by_cases h1:n<10
 ·rw[if_pos h1,if_pos hO];omega
 ·rw[if_neg h1,if_neg hO,if_pos hO];omega
theorem aJk (c:UInt8):UInt8.ofNat (16*(c.toNat/16)+c.toNat % 16)=c:=by
 rw[Nat.div_add_mod];simp
theorem aPs {c:UInt8} (h:c.toNat=34\/c.toNat=92):uC c=some c:=by unfold uC;rw[if_pos hO]
theorem aHr (c:UInt8):((c.toNat=34\/c.toNat=92)/\kI c=[92,c])\/(c=10/\kI c=[92,110])\/(c=9/\kI c=[92,116])\/(c=13/\kI c=[92,114])
  \/kI c=[92,120,hxD (c.toNat/16),hxD (c.toNat % 16)]\/(c.toNat≠34/\c.toNat≠92/\32<=c.toNat/\kI c=[c]):=by
 by_cases h1:c.toNat=34\/c.toNat=92
 ·exact .inl ⟨h1,by unfold kI;rw[if_pos h1]⟩
 by_cases h2:c.toNat=10
 ·exact .inr (.inl ⟨gX.1 h2,by unfold kI;rw[if_neg h1,if_pos h2]⟩)
 by_cases h3:c.toNat=9
 ·exact .inr (.inr (.inl ⟨gX.1 h3,by unfold kI;rw[if_neg h1,if_neg h2,if_pos h3]⟩))
 by_cases h4:c.toNat=13
 ·exact .inr (.inr (.inr (.inl ⟨gX.1 h4,by unfold kI;rw[if_neg h1,if_neg h2,if_neg h3,if_pos h4]⟩)))
 by_cases h5:c.toNat<32\/126<c.toNat
 ·exact .inr (.inr (.inr (.inr (.inl (by unfold kI;rw[if_neg h1,if_neg h2,if_neg h3,if_neg h4,if_pos h5])))))
 ·exact .inr (.inr (.inr (.inr (.inr ⟨by omega,by omega,by omega,by unfold kI;rw[if_neg h1,if_neg h2,if_neg h3,if_neg h4,if_neg h5]⟩))))
theorem aBr (d x:UInt8) (r:List UInt8) (k:Nat) (o:List UInt8) (hd:d.toNat≠120) (he:uC d=some x):iV (92::d::r) k o=iV r (k+2) (o++[x]):=by
 rw[iV.eq_def];simp only;rw[if_neg uAv,if_neg uAv,if_neg uAv,if_pos hd,he]
theorem aQy (a b:Nat) (ha:a<16) (hb:b<16) (r:List UInt8) (k:Nat) (o:List UInt8):iV (92::120::hxD a::hxD b::r) k o=iV r (k+4) (o++[UInt8.ofNat (16*a+b)]):=by
 rw[iV.eq_def];simp only;rw[if_neg uAv,if_neg uAv,if_neg uAv,if_neg uAv,aHW a ha,aHW b hb,if_neg hO,if_neg hO]
theorem aLy (c:UInt8) (r:List UInt8) (k:Nat) (o:List UInt8) (h1:c.toNat≠34) (h2:c.toNat≠92) (h3:32<=c.toNat):iV (c::r) k o=iV r (k+1) (o++[c]):=by
 rw[iV.eq_def];simp only;rw[if_neg h1,if_neg hO,if_pos h2]
theorem aQx (c:UInt8) (r:List UInt8) (k:Nat) (o:List UInt8):iV (kI c++r) k o=iV r (k+(kI c).length) (o++[c]):=by
 have hc:=c.toNat_lt;rcases aHr c with⟨h,e⟩|⟨rfl,e⟩|⟨rfl,e⟩|⟨rfl,e⟩|e|⟨h1,h2,h3,e⟩
 ·rw[e];exact aBr c c r k o hO (aPs h)
 ·rw[e];exact aBr 110 10 r k o uAv uAv
 ·rw[e];exact aBr 116 9 r k o uAv uAv
 ·rw[e];exact aBr 114 13 r k o uAv uAv
 ·rw[e]
  have:=aQy (c.toNat/16) (c.toNat % 16) hO hO r k o;rw[aJk]at this;exact this
 ·rw[e];exact aLy c r k o h1 h2 h3
theorem aQz (k:Nat) (o:List UInt8):iV [] k o=([],k,10):=by rw[iV.eq_def]
theorem aGK:∀(l r:List UInt8) (k:Nat) (o:List UInt8),iV (l.flatMap kI++34::r) k o=(o++l,k+(l.flatMap kI).length+1,0)
 |[],r,k,o=>by
  show iV (34::r) k o=_;rw[iV.eq_def];simp only;rw[if_pos uAv];simp
 |c::l,r,k,o=>by
  rw[cC,bG,aQx,aGK l r];simp[aA8]
theorem aFi (r:List UInt8):cF (34::r)=iV r 1 []:=by
 unfold cF;simp only;rw[if_neg uAv]
theorem aCa (l:List UInt8):(gI l).length=(l.flatMap kI).length+2:=by
 show(l.flatMap kI++[34]).length+1=_;rw[aB];rfl
theorem aDG (l r:List UInt8):cF (gI l++r)=(l,(gI l).length,0):=by
 have e:gI l++r=34::(l.flatMap kI++34::r):=by simp[gI]
 rw[e,aFi,aGK,aCa];simp only[aT,cZ,yA,rV];omega
theorem aRg (c:UInt8):(kI c).length<=4:=by
 rcases aHr c with⟨_,e⟩|⟨_,e⟩|⟨_,e⟩|⟨_,e⟩|e|⟨_,_,_,e⟩<;>rw[e]<;>simp
theorem aAh (l:List UInt8):(gI l).length<=4*l.length+2:=by
 have:∀l:List UInt8,(l.flatMap kI).length<=4*l.length:=by
  intro l;induction l with
  |nil=>simp
  |cons c l ih=>have:=aRg c;simp only[cC,aB,aD];omega
 have:=this l;rw[aCa];omega
open Go.ChangeShapes Go.WideShapes Go.ChangeAt
open Go.ChangeMaps (open_string)
section
variable {H : Type} {enc : TypeId × Value → H} {P : Program}
theorem xV (hl:laidOutB P=true) {W W':World} (hb:Below W.heap.size W W'):∀{ts:List TypeId} {vs:List Value} {ds:List (DataW H)} {ps:List MemPlace},
  (ts.all fun t=>P.readableRec t&&decide (t<P.types.size))=true->DataW.TrodAll enc P W 0 (fun _=>true) true ts vs ds ps->(∀x∈ps,x.block<W.heap.size)->
  DataW.TrodAll enc P W' 0 (fun b=>decide (b<W.heap.size)) true ts vs ds ps
 |[],_,_,_,_,h,_=>by
  obtain⟨rfl,rfl,rfl⟩:=trodAll_nil h;exact trodAll_mk0
 |t::ts,_,_,_,ht,h,hlt=>by
  obtain⟨v,vs,d,ds,p,q,rfl,rfl,rfl,h1,h2⟩:=trodAll_cons h;simp only[jW,eQ,eI]at ht;refine trodAll_cons_mk (Below.trod hl ht.1.1 ht.1.2 h1 hb fun x hx=>hlt x (mC _ hx)) (xV hl hb ?_ h2 fun x hx=>hlt x (aDw _ hx));simpa using ht.2
theorem law_post {f:Func} {s:ChangeSpec} {W W':World} {args:Array Value} {ds:List (DataW H)} {before:List MemPlace} {T:TypeId} (hl:laidOutB P=true)
  (Ph:(f.params.toList.all fun t=>P.readableRec t&&decide (t<P.types.size))=true) (hv:s.vars=[]) (hfn:s.fn H (ds++[])={results:=[.lit (.bool true)],args:=ds})
  (hr:f.resultTypes=#[T]) (hT:P.underlying T=some .bool) (hW:DataW.Whole enc P f.params.toList s.vars false W args.toList ds [] before) (hb:Below W.heap.size W W'):
  s.post enc P f false true false false W args (.bool true) W':=by
 have hlt:=hW.lt;have hW':=hW;obtain⟨p,q,hA,hV,rfl,_,_⟩:=hW';rw[hv]at hV;obtain⟨_,rfl⟩:=trodVars_none hV;simp only[fE]at hlt;refine⟨ds,[],p++[],[],p,[],hW,?_,?_,?_,hb.frame _,fun h=>by cases h⟩
 ·rw[hfn,hr];exact trodAll_mk1 (shut_bool hT _)
 ·rw[hfn];exact xV hl hb Ph hA hlt
 ·rw[hfn,hv];rfl
end
theorem own:ownKnob Tryz.prog.godebug=none:=by kernel_rfl
theorem laid_out:laidOutB Tryz.prog=true:=by kernel_rfl
theorem sN {P:Program} {W:World}:∀(i:Nat) {l:List (String×DataW Unit)},laidMet P l W->laidMet P (l.drop i) W
 |0,_,h=>by rw[rZ];exact h
 |_+1,[],h=>h
 |i+1,_::_,h=>sN i h.tail
end Go.Proofs.YthmfgidbcghnfaaGreatDoor
namespace Go.Proofs.YthmfgidbcghnfaaGreatDoor
open Go.RowKit
def dgt (c:UInt8):Bool:=decide (48<=c.toNat/\c.toNat<=57)
def gF (l:List UInt8):Bool:= !l.isEmpty&& !(l.head? ==some 48&&decide (1<l.length))&&l.all dgt
def kT (l:List UInt8):Int:=l.foldl (fun n c=>10*n+((c.toNat:Int)-48)) 0
theorem aAo (l:List UInt8) (c:UInt8):kT (l++[c])=10*kT l+((c.toNat:Int)-48):=by simp[kT]
theorem oL (c:UInt8):dgt c=true↔48<=(c.toNat:Int)/\(c.toNat:Int)<=57:=by unfold dgt;simp;omega
theorem aEd (s:ByteArray) (k:Nat) (h:k<s.size):s.data.toList.take (k+1)=s.data.toList.take k++[s[k]]:=by
 rw[bP uDu];rfl
theorem aAp (l:List UInt8) (h:l.all dgt=true):∀n:Int,0<=n->n<=l.foldl (fun n c=>10*n+((c.toNat:Int)-48)) n:=by
 induction l with
 |nil=>intro n _;exact Int.le_refl _
 |cons c r ih=>
  intro n hn;simp only[jW,eQ]at h;have hc:=(oL c).1 h.1;simp only[vA];have:=ih h.2 (10*n+((c.toNat:Int)-48)) hO;omega
theorem zF (l:List UInt8) (h:l.all dgt=true):0<=kT l:=aAp l h 0 (Int.le_refl _)
theorem aOs (l r:List UInt8) (hl:l.all dgt=true) (h:r.all dgt=true):kT l<=kT (l++r):=by
 unfold kT;rw[List.foldl_append];exact aAp r h _ (zF l hl)
theorem mH (s:ByteArray):s.data.toList.length=s.size:=by simp
theorem oD (s:ByteArray):s.toList.isEmpty=decide (s.size=0):=by
 rw[dJ,<-mH];cases s.data.toList<;>simp
theorem aKo {s:ByteArray} (h:0<s.size):¬s.toList=[]:=by
 intro e;have h1:=oD s;rw[e,dB hO]at h1;cases h1
theorem aPh (s:ByteArray) (h:0<s.size):s.data.toList.head? =some s[0]:=by
 rw[List.head?_eq_getElem?];have:0<s.data.toList.length:=by simpa using h
 rw[List.getElem?_eq_getElem this];rfl
theorem aEo (s:ByteArray) (h:0<s.size):gF s.data.toList=(!((s[0].toNat==48)&&decide (1<s.size))&&s.data.toList.all dgt):=by
 unfold gF;rw[aPh s h];have h1:s.data.toList.isEmpty=false:=by
  rw[<-mH]at h;cases hl:s.data.toList with
  |nil=>rw[hl]at h;simp at h
  |cons _ _=>rfl
 have h2:(some s[0]==some (48:UInt8))=(s[0].toNat==48):=by
  rw[Bool.eq_iff_iff];simp;constructor
  ·intro e;rw[e];rfl
  ·intro e;exact gX.1 e
 rw[h1,h2,mH];simp
theorem xD (s:ByteArray) (w:World) (hs:s.size<=maxLen):Calls Tryz.prog 160 #[.string s] w fun e w'=>e=.returned (.bool (gF s.data.toList))/\w=w':=by
 unfold maxLen at hs;by_cases h0:0<s.size
 ·have hn:=aKo h0
  have he:s.toList.isEmpty=false:=by rw[oD];exact dB hO
  by_cases h1:s[0].toNat=48/\1<s.size
  ·have H:Hid (gF s.data.toList=false):=by
    show _=_;rw[aEo s h0,h1.1];simp[h1.2]
   obtain⟨h1,h2⟩:=h1;have nl:(s[0].toNat:Int)=48:=by omega
   clear h1;exact Ak7
  ·have H:Hid (gF s.data.toList=s.data.toList.all dgt):=by
    show _=_;rw[aEo s h0];by_cases h2:s[0].toNat=48
    ·simp[show¬1<s.size from fun h=>h1 ⟨h2,h⟩]
    ·simp[h2]
   have HC:Hid ((s[0].toNat:Int)=48/\s.size<=1\/¬(s[0].toNat:Int)=48):=by
    show _\/_;by_cases h2:s[0].toNat=48
    ·exact .inl ⟨by omega,by omega⟩
    ·exact .inr hO
   clear h1;rcases HC.out with⟨h1,h2⟩|h1
   all_goals
    clear HC;go_enter Tryz.func160,Tryz.ntmps160;go_wp2
    go_loop [18] (fun i=>∃k:Nat,k<=s.size/\i=.int .i64 k/\(s.data.toList.take k).all dgt=true) (fun i=>s.size-(intOf i).toNat)
    case atStart=>exact⟨0,aS _,rfl,rfl⟩
    case round=>
     obtain⟨k,hk,rfl,hall⟩:=hrel;have HA:=eU hall;clear hall;by_cases hlt:k<s.size
     ·have u6:=aEd s k hlt
      by_cases hd:48<=(s[k].toNat:Int)/\(s[k].toNat:Int)<=57
      ·have HS:Hid ((s.data.toList.take (k+1)).all dgt=true):=by
        show _=_;rw[u6,vB,HA.out];simp;exact(oL _).2 hd
       obtain⟨lu,AL⟩:=hd;clear u6;go_wp2
       go_round
       case rel=>exact⟨k+1,by omega,by go_num,HS.out⟩
       case measure=>simp[intOf];omega
      ·have HS:Hid (s.data.toList.all dgt=false):=by
        show _=_;rw[oR];intro h;rw[lI]at h;exact hd ((oL _).1 (h s[k] (by
         have:s[k]=s.data.toList[k]'(by simpa using hlt):=rfl;rw[this];exact aX _)))
       clear u6;by_cases lu:48<=(s[k].toNat:Int)
       ·have AL:57<(s[k].toNat:Int):=by omega
        clear hd;go_wp2
        go_ret;exact⟨by rw[H.out,HS.out];rfl,rfl⟩
       ·have AL:(s[k].toNat:Int)<48:=by omega
        clear hd lu;go_wp2
        go_ret;exact⟨by rw[H.out,HS.out];rfl,rfl⟩
     ·have HS:Hid (s.data.toList.all dgt=true):=by
       show _=_;have:=HA.out;rwa[bC (by rw[mH];omega)]at this
      go_wp2
      go_ret;exact⟨by rw[H.out,HS.out];rfl,rfl⟩
 ·have H:Hid (gF s.data.toList=false):=by
   show _=_;have:s.data.toList=[]:=aQ (by rw[mH];omega);rw[this];rfl
  have he:s.toList=[]:=by
   have:=oD s;rw[gT hO]at this;simpa using this
  have Hb:s.toList.isEmpty=true:=by rw[he];rfl
  clear h0;exact Ak7
def wM (l:List UInt8):Int×Int:=chk (-kT l)
def gK (l:List UInt8) (neg:Bool):Int×Int:=if neg then chk (-kT l)else chk (kT l)
theorem aAn (s:ByteArray) (w:World) (hs:s.size<=maxLen) (hd:s.data.toList.all dgt=true):Calls Tryz.prog 190 #[.string s] w fun e w'=>e=.returned (.tuple #[.int .i64 (wM s.data.toList).1,.int .i64 (wM s.data.toList).2])/\w=w':=by
 unfold maxLen at hs;have HD:=eU hd;clear hd;go_enter Tryz.func190,Tryz.ntmps190;go_wp2_with fail
 go_loop [4,10] (fun n i=>∃k:Nat,k<=s.size/\i=.int .i64 k/\n=.int .i64 (-kT (s.data.toList.take k))/\InR (-kT (s.data.toList.take k))) (fun _ i=>s.size-(intOf i).toNat)
 case atStart=>exact⟨0,aS _,rfl,rfl,by simp[kT,InR]⟩
 case round=>
  obtain⟨k,hk,rfl,rfl,Bh⟩:=hrel;by_cases hlt:k<s.size
  ·have u6:=aEd s k hlt
   have HC:Hid (48<=(s[k].toNat:Int)/\(s[k].toNat:Int)<=57):=by
    show _/\_;have h:=HD.out;rw[lI]at h;refine(oL _).1 (h s[k] ?_);have:s[k]=s.data.toList[k]'(by simpa using hlt):=rfl;rw[this];exact aX _
   have HS:Hid (kT (s.data.toList.take (k+1))=10*kT (s.data.toList.take k)+((s[k].toNat:Int)-48)):=by
    show _=_;rw[u6,aAo]
   have HL:Hid (∀j,kT (s.data.toList.take j)<=kT s.data.toList):=by
    intro j;have h:=HD.out
    conv=>rhs;rw[<-eD j s.data.toList]
    rw[<-eD j s.data.toList,vB,eQ]at h;exact aOs _ _ h.1 h.2
   have HN:Hid (0<=kT (s.data.toList.take k)):=by
    have h:=HD.out;rw[<-eD k s.data.toList,vB,eQ]at h;exact zF _ h.1
   clear u6;obtain⟨n,hn⟩:∃n,kT (s.data.toList.take k)=n:=⟨_,rfl⟩
   rw[hn]at HS HN Bh ⊢;have HE:=eU hn;clear hn;have dr:=HC.out.1;have xq:=HC.out.2;have hu:IntKind.u8.wrap ((s[k].toNat:Int)-48)=(s[k].toNat:Int)-48:=by rw[IntKind.wrap_u8];omega
   have ox:=eU (HL.out (k+1));clear HL HD;by_cases hA:InR (-n*10)
   ·have hm:aCx (-n) 10=(-n*10,0):=sB hA
    by_cases hB:InR (-n*10-((s[k].toNat:Int)-48))
    ·have Cg:aJ1 (-n*10) ((s[k].toNat:Int)-48)=(-n*10-((s[k].toNat:Int)-48),0):=sB hB
     go_wp2_with (first
      |(go_at_call 230;refine(aFP _ _ _ Bh uFz).mono ?_;rintro e w' ⟨rfl,rfl⟩)
      |(go_at_call 191;refine(aFO _ _ _ hA uFz).mono ?_;rintro e w' ⟨rfl,rfl⟩))
     go_round
     case rel=>
      have e1: -n*10-((s[k].toNat:Int)-48)= -kT (s.data.toList.take (k+1)):=by rw[HS.out];omega
      rw[e1]at hB;exact⟨k+1,by omega,by go_num,by rw[e1],hB⟩
     case measure=>simp[intOf];omega
    ·have Cg:aJ1 (-n*10) ((s[k].toNat:Int)-48)=(0,4):=oN hB
     have HF:Hid (wM s.data.toList=(0,4)):=by
      refine oN fun h=>hB ?_
      have:=ox.out;have:=HS.out;unfold InR at*;omega
     go_wp2_with (first
      |(go_at_call 230;refine(aFP _ _ _ Bh uFz).mono ?_;rintro e w' ⟨rfl,rfl⟩)
      |(go_at_call 191;refine(aFO _ _ _ hA uFz).mono ?_;rintro e w' ⟨rfl,rfl⟩))
     go_ret2;exact⟨by rw[HF.out];rfl,rfl⟩
   ·have hm:aCx (-n) 10=(0,4):=oN hA
    have HF:Hid (wM s.data.toList=(0,4)):=by
     refine oN fun h=>hA ?_
     have:=ox.out;have:=HS.out;have:=HN.out;unfold InR at*;omega
    go_wp2_with (first
     |(go_at_call 230;refine(aFP _ _ _ Bh uFz).mono ?_;rintro e w' ⟨rfl,rfl⟩))
    go_ret2;exact⟨by rw[HF.out];rfl,rfl⟩
  ·go_wp2_with fail
   go_ret2;have:s.data.toList.take k=s.data.toList:=bC (by rw[mH];omega);rw[this]at Bh ⊢;exact⟨by unfold wM;rw[sB Bh];rfl,rfl⟩
theorem aLL (l:List UInt8):gK l true=wM l:=rfl
theorem aH2 (l:List UInt8) (h:l.all dgt=true) (h1:¬InR (-kT l)) (n:Bool):gK l n=(0,4):=by
 have:=zF l h;cases n
 ·exact oN fun h2=>h1 (by unfold InR at*;omega)
 ·exact oN h1
theorem aCs (s:ByteArray) (neg:Bool) (w:World) (hs:s.size<=maxLen) (hd:s.data.toList.all dgt=true):Calls Tryz.prog 161 #[.string s,.bool neg] w fun e w'=>e=.returned (.tuple #[.int .i64 (gK s.data.toList neg).1,.int .i64 (gK s.data.toList neg).2])/\w=w':=by
 by_cases h:InR (-kT s.data.toList)
 ·have hb:wM s.data.toList=(-kT s.data.toList,0):=sB h
  have H0:Hid (InR 0):=by show InR 0;unfold InR;omega
  cases neg
  ·have H:Hid (gK s.data.toList false=aJ1 0 (-kT s.data.toList)):=by
    show chk _=chk _;rw[Int.zero_sub,Int.neg_neg]
   go_enter Tryz.func161,Tryz.ntmps161;go_wp2_with (first
    |(go_at_call 190;refine(aAn _ _ hs hd).mono ?_;rintro e w' ⟨rfl,rfl⟩)
    |(go_at_call 191;refine(aFO _ _ _ H0.out h).mono ?_;rintro e w' ⟨rfl,rfl⟩))
   go_ret2;exact⟨by rw[H.out];rfl,rfl⟩
  ·have H:=eU (aLL s.data.toList)
   have HB:=eU hb;go_enter Tryz.func161,Tryz.ntmps161;go_wp2_with (first
    |(go_at_call 190;refine(aAn _ _ hs hd).mono ?_;rintro e w' ⟨rfl,rfl⟩))
   go_ret2;exact⟨by rw[H.out,HB.out];rfl,rfl⟩
 ·have hb:wM s.data.toList=(0,4):=oN h
  have H:=eU (aH2 s.data.toList hd h neg);go_enter Tryz.func161,Tryz.ntmps161;go_wp2_with (first
   |(go_at_call 190;refine(aAn _ _ hs hd).mono ?_;rintro e w' ⟨rfl,rfl⟩))
  all_goals
   go_ret2;exact⟨by rw[H.out];rfl,rfl⟩
def eO (l:List UInt8):Int×Int:=
 match l with
 |[]=>(0,2)
 |c::r=>if c.toNat=45 then(if r=[48]then(0,2)else if gF r=true then gK r true else(0,2))else if gF (c::r)=true then gK (c::r) false else(0,2)
theorem qV {l:List UInt8} (h:gF l=true):l.all dgt=true:=by
 unfold gF at h;simp only[eQ]at h;exact h.2
theorem aMR (s:ByteArray) (h:0<s.size):s.data.toList=s[0]::(s.extract 1 s.size).data.toList:=by
 have h1:(s.extract 1 s.size).data.toList=s.data.toList.drop 1:=by
  rw[ByteArray.data_extract,Array.toList_extract];simp;exact bC uAy
 rw[h1];have h2:0<s.data.toList.length:=by rw[mH];exact h
 have h3:s[0]=s.data.toList[0]:=rfl;rw[h3];have h4:=lW h2;rw[rZ]at h4;exact h4
theorem aMa (s:ByteArray) (w:World) (hs:s.size<=maxLen):Calls Tryz.prog 124 #[.string s] w fun e w'=>e=.returned (.tuple #[.int .i64 (eO s.data.toList).1,.int .i64 (eO s.data.toList).2])/\w=w':=by
 have ed:=hs;unfold maxLen at ed;by_cases h0:0<s.size
 ·have hn:=aKo h0
  have he:s.toList.isEmpty=false:=by rw[oD];exact dB hO
  have Vz:=aMR s h0;have hz:(s.extract 1 s.size).size<=s.size:=by simp[nQ]
  obtain⟨t,ht⟩:∃t,s.extract 1 s.size=t:=⟨_,rfl⟩
  rw[ht]at Vz hz;have hl:eO s.data.toList=if s[0].toNat=45 then(if t.data.toList=[48]then(0,2)else if gF t.data.toList=true then gK t.data.toList true else(0,2))else if gF s.data.toList=true then gK s.data.toList false else(0,2):=by
   rw[Vz];rfl
  clear Vz;have HL:=eU hl;clear hl;by_cases hc:s[0].toNat=45
  ·have dr:(s[0].toNat:Int)=45:=by omega
   have fu:Hid (eO s.data.toList=if t.data.toList=[48]then(0,2)else if gF t.data.toList=true then gK t.data.toList true else(0,2)):=HL.out.trans (if_pos hc);clear HL hc;have AM:=eU (dJ t);by_cases D5:t.data.toList=[48]
   ·have wm:(t.toList==[48])=true:=by rw[AM.out,D5];rfl
    have na:Hid (eO s.data.toList=(0,2)):=fu.out.trans (if_pos D5);clear fu D5;go_enter Tryz.func124,Tryz.ntmps124;go_wp2_with fail
    go_ret2;exact⟨by rw[na.out];rfl,rfl⟩
   ·have wm:(t.toList==[48])=false:=by rw[AM.out];exact aE.2 D5
    have na:Hid (eO s.data.toList=if gF t.data.toList=true then gK t.data.toList true else(0,2)):=fu.out.trans (if_neg D5);clear fu D5;have u6:t.size<=maxLen:=by unfold maxLen;omega
    have Hc:=eU u6;clear u6;by_cases hp:gF t.data.toList=true
    ·have pb:Hid (eO s.data.toList=gK t.data.toList true):=na.out.trans (if_pos hp)
     have HA:=eU (qV hp);clear na;go_enter Tryz.func124,Tryz.ntmps124;go_wp2_with (first
      |(go_at_call 160;refine(xD _ _ Hc.out).mono ?_;rintro e w' ⟨rfl,rfl⟩)
      |(go_at_call 161;refine(aCs _ _ _ Hc.out HA.out).mono ?_;rintro e w' ⟨rfl,rfl⟩))
     go_ret2;exact⟨by rw[pb.out];rfl,rfl⟩
    ·have qb:gF t.data.toList=false:=by simpa using hp
     have pb:Hid (eO s.data.toList=(0,2)):=na.out.trans (if_neg hp);clear na hp;go_enter Tryz.func124,Tryz.ntmps124;go_wp2_with (first
      |(go_at_call 160;refine(xD _ _ Hc.out).mono ?_;rintro e w' ⟨rfl,rfl⟩))
     go_ret2;exact⟨by rw[pb.out];rfl,rfl⟩
  ·have dr:((s[0].toNat:Int)==45)=false:=aE.2 hO
   have na:Hid (eO s.data.toList=if gF s.data.toList=true then gK s.data.toList false else(0,2)):=HL.out.trans (if_neg hc);have xq:¬(s[0].toNat:Int)=45:=by omega
   clear HL hc hz ht;have Hc:=eU hs;clear hs;by_cases hp:gF s.data.toList=true
   ·have pb:Hid (eO s.data.toList=gK s.data.toList false):=na.out.trans (if_pos hp)
    have HA:=eU (qV hp);have HD:Hid (∀P:Prop,(48<=(s[0].toNat:Int)->(s[0].toNat:Int)<=57->P)->P):=by
     intro P h;have h1:=HA.out;rw[lI]at h1;have h2:=(oL s[0]).1 (h1 s[0] (by
      have:s[0]=s.data.toList[0]'(by rw[mH];exact h0):=rfl;rw[this];exact aX _))
     exact h h2.1 h2.2
    clear na;go_enter Tryz.func124,Tryz.ntmps124;go_wp2_with (first
     |(go_at_call 160;refine(xD _ _ Hc.out).mono ?_;rintro e w' ⟨rfl,rfl⟩)
     |(go_at_call 161;refine(aCs _ _ _ Hc.out HA.out).mono ?_;rintro e w' ⟨rfl,rfl⟩))
    all_goals go_ret2
    all_goals
     first
      |exact⟨by rw[pb.out];rfl,rfl⟩
      |(exfalso;refine HD.out _ fun _ _=> ?_;simp_all;omega)
   ·have qb:gF s.data.toList=false:=by simpa using hp
    have pb:Hid (eO s.data.toList=(0,2)):=na.out.trans (if_neg hp);clear na hp;go_enter Tryz.func124,Tryz.ntmps124;go_wp2_with (first
     |(go_at_call 160;refine(xD _ _ Hc.out).mono ?_;rintro e w' ⟨rfl,rfl⟩))
    all_goals
     go_ret2;exact⟨by rw[pb.out];rfl,rfl⟩
 ·have he:s.toList=[]:=by
   have:=oD s;rw[gT hO]at this;simpa using this
  have Hb:s.toList.isEmpty=true:=by rw[he];rfl
  have H:Hid (eO s.data.toList=(0,2)):=by
   show _=_;rw[<-dJ,he];rfl
  clear h0;go_enter Tryz.func124,Tryz.ntmps124;go_wp2_with fail
  go_ret2;exact⟨by rw[H.out];rfl,rfl⟩
def aSJ (w w':World):Prop:=∃n,w'=w.drewN n
theorem aSJ.below {w w':World} (h:aSJ w w'):Below w.heap.size w w':=by
 exact Al7
section
variable {P : Program} {md : Region.Mode} {ops : Array Oper} {Q : Exit → Act → World → Prop} {S : World → Prop} {U : List Nat}
def aQw (val:Nat->Value) (i:Nat) (v:Value) (k:Nat):Value:=if k=i then v else val k
theorem aBq (val:Nat->Value) (i:Nat) (v:Value):aQw val i v i=v:=if_pos rfl
theorem pM (val:Nat->Value) {i k:Nat} (v:Value) (h:k≠i):aQw val i v k=val k:=if_neg h
structure Gr {α:Type} (R:World->Value->α->Prop) (T:TypeId) (z:Array Value) (vars:List Nat) (gots:List (Nat×α)) (Wb V:World) (m:List Nat) (val:Nat->Value):Prop where
 bel:Below Wb.heap.size Wb V
 made:∀i∈vars,i∈m->∃x,val i=.pointer (some ⟨x,0,none⟩)/\Wb.heap.size<=x/\V.heap[x]? =some (.cells z T (0,0))
 got:∀g∈gots,g.1∈m->R V (val g.1) g.2
 apart:∀i∈vars,∀j∈vars,i∈m->j∈m->i≠j->val i≠val j
section
variable {α : Type} {R : World → Value → α → Prop} {T : TypeId} {z : Array Value} {vars : List Nat} {gots : List (Nat × α)} {Wb V V' : World} {m : List Nat} {val : Nat → Value}
theorem Gr.start (Wb:World):Gr R T z vars gots Wb Wb [] val:=⟨bB _ _,fun _ _ h=>uOu,fun _ _ h=>uOu,fun _ _ _ _ h=>uOu⟩
theorem Gr.call (hR:∀A B v x,R A v x->Below A.heap.size A B->R B v x) (h:Gr R T z vars gots Wb V m val) (hb:Below V.heap.size V V') {i:Nat} {v:Value} (hi:∀j∈vars,j≠i) (hg:∀g∈gots,g.1=i->R V' v g.2):
  Gr R T z vars gots Wb V' (i::m) (aQw val i v):=by
 refine⟨tW h.bel hb,fun j hj hm=> ?_,fun g wo hm=> ?_,fun j hj k hk Tv Tw bn=> ?_⟩
 ·have ga:=hi j hj
  obtain⟨x,h1,h2,h3⟩:=h.made j hj ((bL.1 hm).resolve_left ga);exact⟨x,(pM val v ga).trans h1,h2,kW hb h3⟩
 ·by_cases e:g.1=i
  ·have h1:=hg g wo e
   rw[e,aBq];exact h1
  ·rw[pM val v e]
   exact hR _ _ _ _ (h.got g wo ((bL.1 hm).resolve_left e)) hb
 ·rw[pM val v (hi j hj),pM val v (hi k hk)]
  exact h.apart j hj k hk ((bL.1 Tv).resolve_left (hi j hj)) ((bL.1 Tw).resolve_left (hi k hk)) bn
theorem Gr.alloc (hR:∀A B v x,R A v x->Below A.heap.size A B->R B v x) (h:Gr R T z vars gots Wb V m val) {i:Nat} (hg:∀g∈gots,g.1≠i):
  Gr R T z vars gots Wb (V.alloc (.cells z T)) (i::m) (aQw val i (.pointer (some ⟨V.heap.size,0,none⟩))):=by
 have hb:=Below.newly' V (.cells z T);have hlt:∀j∈vars,j∈m->val j≠.pointer (some ⟨V.heap.size,0,none⟩):=fun j hj hm e=>by
  obtain⟨x,h1,_,h3⟩:=h.made j hj hm;rw[h1]at e;simp only[Value.pointer.injEq,bA,mE]at e;have:=(gZ h3)
  omega
 refine⟨tW h.bel hb,fun j hj hm=> ?_,fun g wo hm=> ?_,fun j hj k hk Tv Tw bn=> ?_⟩
 ·by_cases e:j=i
  ·rw[e,aBq]
   exact⟨_,rfl,h.bel.size,aC _ _⟩
  ·rw[pM val _ e]
   obtain⟨x,h1,h2,h3⟩:=h.made j hj ((bL.1 hm).resolve_left e);exact⟨x,h1,h2,kW hb h3⟩
 ·rw[pM val _ (hg g wo)]
  exact hR _ _ _ _ (h.got g wo ((bL.1 hm).resolve_left (hg g wo))) hb
 ·by_cases e:j=i
  ·have jx:k≠i:=fun e'=>bn (e.trans e'.symm)
   rw[e,aBq,pM val _ jx];exact(hlt k hk ((bL.1 Tw).resolve_left jx)).symm
  ·by_cases e':k=i
   ·rw[e',aBq,pM val _ e]
    exact hlt j hj ((bL.1 Tv).resolve_left e)
   ·rw[pM val _ e,pM val _ e']
    exact h.apart j hj k hk ((bL.1 Tv).resolve_left e) ((bL.1 Tw).resolve_left e') bn
end
end
end Go.Proofs.YthmfgidbcghnfaaGreatDoor
namespace Go.Proofs.YthmfgidbcghnfaaGreatDoor
open Go.RowKit
def aF3 (w:World) (v:Value) (zs:List Int):Prop:=∃(a:Option Addr) (cap:Nat),v=.slice a zs.length cap/\(0<zs.length->∃ad,a=some ad/\∀j u,(iv zs)[j]? =some u->w.cell? (ad.add j)=some u)
def tG (w:World) (v:Value) (zs:List Int):Prop:=
 (zs=[]/\v=.slice none 0 0)\/(0<zs.length/\∃(g c:Nat) (cs:Array Value) (fr:Nat×Nat),v=.slice (some ⟨g,0,none⟩) zs.length c/\zs.length<=c/\w.heap[g]? =some (.cells cs 3 fr)/\∀(j:Nat) (u:Value),(iv zs)[j]? =some u->cs[j]? =some u)
def aLe (B:Nat) (w:World) (v:Value) (zs:List Int):Prop:=
 (zs=[]/\v=.slice none 0 0)\/(0<zs.length/\∃(g c:Nat) (cs:Array Value) (fr:Nat×Nat),B<=g/\v=.slice (some ⟨g,0,none⟩) zs.length c/\zs.length<=c/\w.heap[g]? =some (.cells cs 3 fr)/\∀(j:Nat) (u:Value),(iv zs)[j]? =some u->cs[j]? =some u)
theorem aLe.at_ {B:Nat} {w:World} {v:Value} {zs:List Int}:aLe B w v zs->tG w v zs
 | .inl h=>.inl h
 | .inr ⟨h0,g,c,cs,fr,_,h⟩=>.inr ⟨h0,g,c,cs,fr,h⟩
theorem aF3.later {w w':World} {v:Value} {zs:List Int} (h:aF3 w v zs) (hb:Below w.heap.size w w'):aF3 w' v zs:=by
 obtain⟨a,cap,rfl,h2⟩:=h;refine⟨a,cap,rfl,fun h0=> ?_⟩;obtain⟨ad,rfl,hc⟩:=h2 h0;exact⟨ad,rfl,fun j u hu=>(hb.cell (p:=ad.add j) (aO w _ (hc j u hu))).trans (hc j u hu)⟩
theorem tG.nil (w:World):tG w (.slice none 0 0) []:=.inl ⟨rfl,rfl⟩
theorem tG.kept {w w':World} {v:Value} {zs:List Int} {row:Option Nat} (h:tG w v zs) (hg:w.grownBy w' row) (hT:∀X,row=some X->∃cs T fr,w.heap[X]? =some (.cells cs T fr)/\T≠3):tG w' v zs:=by
 rcases h with h|⟨h0,g,c,cs,fr,h1,h2,h3,h4⟩
 ·exact .inl h
 ·refine .inr ⟨h0,g,c,cs,fr,h1,h2,?_,h4⟩
  refine(hg.block g (gZ h3) ?_).trans h3;intro e;obtain⟨Jc,T,N4,hX,bn⟩:=hT g e.symm;rw[h3]at hX;simp only[bA,dK]at hX;exact bn hX.2.1.symm
theorem rE (g o j:Nat):(⟨g,o,none⟩:Addr).add j=⟨g,o+j,none⟩:=by
 unfold Addr.add;split<;>simp_all
theorem tG.cells {w:World} {v:Value} {zs:List Int} (h:tG w v zs):aF3 w v zs:=by
 rcases h with⟨rfl,rfl⟩|⟨h0,g,c,cs,fr,rfl,h2,h3,h4⟩
 ·exact⟨none,0,rfl,fun h=>absurd h uAy⟩
 ·refine⟨_,c,rfl,fun _=>⟨_,rfl,fun j u hu=> ?_⟩⟩
  rw[rE,eA];exact aG h3 (h4 j u hu)
theorem zK:(Tryz.prog.info? 3).map (·.size)=some 1:=by kernel_rfl
theorem tG.later {w w':World} {v:Value} {zs:List Int} (h:tG w v zs) (hb:Below w.heap.size w w'):tG w' v zs:=
 h.kept (row:=none) ⟨hb.os,hb.tape,hb.output,hb.size,fun k hk _=>hb.block k hk⟩ (fun _ e=>by cases e)
theorem tG.shape {w:World} {v:Value} {zs:List Int} (h:tG w v zs):∃a n,v=.slice a zs.length n/\zs.length<=n:=by
 rcases h with⟨rfl,rfl⟩|⟨_,g,c,_,_,rfl,h,_,_⟩
 ·exact⟨none,0,rfl,aA _⟩
 ·exact⟨_,c,rfl,h⟩
theorem yP.range {w:World} {v:Value} {zs:List Int} (h:yP w v zs):∀n∈zs,-9223372036854775808<=n/\n<=9223372036854775807:=by
 obtain⟨_,_,_,_,_,_,_,h,_⟩:=h;exact h
structure aE4 (n:Nat) (w w':World):Prop where
 os:w'.os=w.os
 tape:w'.tape=w.tape
 output:w'.output=w.output
 size:w.heap.size<=w'.heap.size
 block:∀k,n<=k->k<w.heap.size->w'.heap[k]? =w.heap[k]?
theorem aE4.refl (n:Nat) (w:World):aE4 n w w:=⟨rfl,rfl,rfl,aA _,fun _ _ _=>rfl⟩
theorem aE4.trans {n:Nat} {a b c:World} (h:aE4 n a b) (k:aE4 n b c):aE4 n a c:=
 ⟨k.os.trans h.os,k.tape.trans h.tape,k.output.trans h.output,aI h.size k.size,fun j h1 h2=>(k.block j h1 (bK h2 h.size)).trans (h.block j h1 h2)⟩
theorem aE4.below {n:Nat} {a b:World} (h:Below a.heap.size a b):aE4 n a b:=⟨h.os,h.tape,h.output,h.size,fun j _ h2=>h.block j h2⟩
theorem aE4.only {n X:Nat} {a b:World} (h:iL X a b) (hX:X<n):aE4 n a b:=
 ⟨h.by_.os,h.by_.tape,h.by_.output,h.by_.size,fun j h1 h2=>h.by_.block j h2 uCy⟩
end Go.Proofs.YthmfgidbcghnfaaGreatDoor
