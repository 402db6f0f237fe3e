import Derived.Test.YthmfgidbcghnfaaGreatDoorQ0
import Derived.Test.YthmfgidbcghnfaaGreatDoorQ21
set_option maxRecDepth 1000000
set_option maxHeartbeats 8000000
set_option linter.unusedSimpArgs false
namespace Go.Proofs.YthmfgidbcghnfaaGreatDoor
open Go.RowKit
theorem aSg (xs:List Tr):cP (.nd 4 0 ⟨#[]⟩ [] xs)=.nd 4 0 ⟨#[]⟩ [] (xs.map cP):=by rw[cP,if_neg uAv,if_neg uAv,kJ]
theorem aQ6 (ks:List ByteArray) (xs:List Tr):cP (.nd 5 0 ⟨#[]⟩ ks xs)=.nd 5 0 ⟨#[]⟩ ((oE kbF (ks.zip (xs.map cP))).map (·.1)) ((oE kbF (ks.zip (xs.map cP))).map (·.2)):=by rw[cP,if_pos rfl,kJ]
theorem aQ5 (xs:List Tr):cP (.nd 6 0 ⟨#[]⟩ [] xs)=.nd 6 0 ⟨#[]⟩ [] (oE dW (xs.map cP)):=by rw[cP,if_neg uAv,if_pos rfl,kJ]
theorem aIS {a:Tr} (hd:gJ a<=64) (hn:eW a<=16384):dY a=(a,0):=by
 unfold dY;rw[if_neg hO,if_neg hO]
theorem aH0 {β:Type} (f:β->List UInt8) (l:List β) (x:β):oE f (l++[x])=tT f (oE f l) x:=by
 unfold oE;rw[List.foldl_append];rfl
theorem aNM {β:Type} (l:List β) (x:β):eN l.length l x=l++[x]:=by
 unfold eN;rw[mZ,List.drop_length]
theorem aSr (xs:List Tr) (r:Tr):aDX (cP (.nd 4 0 ⟨#[]⟩ [] xs)) (xs.length:Int) (cP r)=dY (cP (.nd 4 0 ⟨#[]⟩ [] (xs++[r]))):=by
 rw[aSg,aSg];unfold aDX;simp only[Tr.k,Tr.xs,aM];rw[if_neg uAy,if_neg hO];have h:=aNM (xs.map cP) (cP r);rw[aM]at h;rw[kM,h,bZ];rfl
theorem aOa (l:List (ByteArray×Tr)) (z:ByteArray) (x:Tr):(tT kbF l (z,x)).map (·.1)=eN (eX (l.map (·.1)) z) (l.map (·.1)) z/\(tT kbF l (z,x)).map (·.2)=eN (eX (l.map (·.1)) z) (l.map (·.2)) x:=by
 have hp:eX (l.map (·.1)) z=(l.takeWhile fun y=>decide (kbF y<kb z)).length:=by
  unfold eX;rw[List.takeWhile_map,aM];rfl
 have h1:tT kbF l (z,x)=eN (eX (l.map (·.1)) z) l (z,x):=by
  rw[hp];unfold tT eN;rw[aFk,aFm]
 rw[h1];unfold eN;simp only[bZ,cA,uM,uN,and_self]
theorem aCJ {ks:List ByteArray} {xs:List Tr} (hl:ks.length=xs.length) (z:ByteArray):z∈(oE kbF (ks.zip (xs.map cP))).map (·.1)↔z∈ks:=by
 have h:=((iG (f:=kbF) (ks.zip (xs.map cP))).map (·.1)).mem_iff (a:=z);rw[tM ks (xs.map cP) (by rw[aM];exact hl)]at h;exact h
theorem get5 (K:List ByteArray) (X:List Tr) (z:ByteArray):aDZ (.nd 5 0 ⟨#[]⟩ K X) 1 0 z=match K.findIdx? (fun y=>decide (y=z))with
  |none=>(jH,5)
  |some j=>(X[j]?.getD jH,0):=rfl
theorem set5 (K:List ByteArray) (X:List Tr) (z:ByteArray) (x:Tr):vI (.nd 5 0 ⟨#[]⟩ K X) 1 0 z x=match K.findIdx? (fun y=>decide (y=z))with
  |some j=>dY (.nd 5 0 ⟨#[]⟩ K (X.set j x))
  |none=>dY (.nd 5 0 ⟨#[]⟩ (eN (eX K z) K z) (eN (eX K z) X x)):=rfl
theorem add6 (X:List Tr) (x:Tr):aBn (.nd 6 0 ⟨#[]⟩ [] X) x=match X.findIdx? (fun y=>decide (dW y=kb ⟨(dW x).toArray⟩))with
  |some _=>(.nd 6 0 ⟨#[]⟩ [] X,0)
  |none=>dY (.nd 6 0 ⟨#[]⟩ [] (tT dW X x)):=rfl
theorem aTx {K:List ByteArray} {z:ByteArray} (h:z∈K):∃j,K.findIdx? (fun y=>decide (y=z))=some j:=by
 cases e:K.findIdx? fun y=>decide (y=z)with
 |none=>
  rw[List.findIdx?_eq_none_iff]at e;have:=e z h;simp at this
 |some j=>exact⟨j,rfl⟩
theorem aKK {K:List ByteArray} {z:ByteArray} (h:z∉K):K.findIdx? (fun y=>decide (y=z))=none:=by
 rw[List.findIdx?_eq_none_iff];intro y hy;exact dB fun e=>h (e▸hy)
theorem aTT {ks:List ByteArray} {xs:List Tr} (hl:ks.length=xs.length) {z:ByteArray} (h:z∈ks):(aDZ (cP (.nd 5 0 ⟨#[]⟩ ks xs)) 1 0 z).2=0:=by
 rw[aQ6,get5];obtain⟨j,e⟩:=aTx ((aCJ hl z).2 h);rw[e]
theorem aSt {ks:List ByteArray} {xs:List Tr} (hl:ks.length=xs.length) {z:ByteArray} (h:z∉ks):(aDZ (cP (.nd 5 0 ⟨#[]⟩ ks xs)) 1 0 z).2=5:=by
 rw[aQ6,get5,aKK fun hm=>h ((aCJ hl z).1 hm)]
theorem aSu {ks:List ByteArray} {xs:List Tr} (hl:ks.length=xs.length) {z:ByteArray} (hz:z∉ks) (r:Tr):vI (cP (.nd 5 0 ⟨#[]⟩ ks xs)) 1 0 z (cP r)=dY (cP (.nd 5 0 ⟨#[]⟩ (ks++[z]) (xs++[r]))):=by
 rw[aQ6,set5,aKK fun hm=>hz ((aCJ hl z).1 hm),aQ6];simp only;rw[bZ,cA,gY,List.zip_append (by rw[aM];exact hl)];have e1:([z]:List ByteArray).zip [cP r]=[(z,cP r)]:=rfl;rw[e1,aH0];obtain⟨h1,h2⟩:=aOa (oE kbF (ks.zip (xs.map cP))) z (cP r);rw[h1,h2]
theorem aKb (xs:List Tr) (y:Tr):y∈oE dW (xs.map cP)↔y∈xs.map cP:=(iG (f:=dW) (xs.map cP)).mem_iff
theorem aCK (l:List UInt8):kb (⟨l.toArray⟩:ByteArray)=l:=by simp[kb]
theorem aNa {xs:List Tr} {x:Tr} (h:dW x∈(xs.map cP).map dW):aBn (cP (.nd 6 0 ⟨#[]⟩ [] xs)) x=(cP (.nd 6 0 ⟨#[]⟩ [] xs),0):=by
 rw[aQ5,add6,aCK];obtain⟨y,hy,e⟩:=dH.1 h;cases he:(oE dW (xs.map cP)).findIdx? fun y=>decide (dW y=dW x)with
 |none=>
  rw[List.findIdx?_eq_none_iff]at he;have:=he y ((aKb xs y).2 hy);rw[gT e]at this;cases this
 |some j=>rfl
theorem aSs {xs:List Tr} {r:Tr} (h:dW (cP r)∉(xs.map cP).map dW):aBn (cP (.nd 6 0 ⟨#[]⟩ [] xs)) (cP r)=dY (cP (.nd 6 0 ⟨#[]⟩ [] (xs++[r]))):=by
 have hn:(oE dW (xs.map cP)).findIdx? (fun y=>decide (dW y=dW (cP r)))=none:=by
  rw[List.findIdx?_eq_none_iff];intro y hy;exact dB fun e=>h (dH.2 ⟨y,(aKb xs y).1 hy,e⟩)
 rw[aQ5,add6,aCK,hn,aQ5,bZ,cA,gY,aH0]
structure tH (k:Int) (d n:Nat) (seen:List (List UInt8)) (ks:List ByteArray) (xs:List Tr):Prop where
 kind:k=4\/k=5\/k=6
 parts:∀y∈xs,rT y/\gJ y+(d+1)<=65
 m5:k=5->ks.length=xs.length/\ks.Nodup/\seen=ks.map kb
 m4:k≠5->ks=[]
 m6:k=6->seen=(xs.map cP).map dW/\seen.Nodup
 num:cU xs+1<=n
theorem tH.ok {k:Int} {d n:Nat} {seen:List (List UInt8)} {ks:List ByteArray} {xs:List Tr} (h:tH k d n seen ks xs) (hd:d<=64):rT (.nd k 0 ⟨#[]⟩ ks xs)/\gJ (.nd k 0 ⟨#[]⟩ ks xs)+d<=65/\eW (.nd k 0 ⟨#[]⟩ ks xs)<=n:=by
 refine⟨aBv h.kind (fun y hy=>(h.parts y hy).1) (fun e=>⟨(h.m5 e).1,(h.m5 e).2.1⟩) h.m4 (fun e=> ?_),?_,?_⟩
 ·rw[kJ]
  obtain⟨h1,h2⟩:=h.m6 e;rw[h1]at h2;exact h2
 ·have hL:∀zs:List Tr,(∀y∈zs,rT y/\gJ y+(d+1)<=65)->fP zs+(d+1)<=65:=fun zs=>by
   induction zs with
   |nil=>intro _;rw[fP];omega
   |cons z zs Xo=>
    intro hz;have:=(hz z (aZ ..)).2;have:=Xo (fun y hy=>hz y (bF _ hy));rw[fP];omega
  have:=hL xs h.parts;rw[gJ];omega
 ·have:=h.num
  rw[eW];omega
theorem xE (xs:List Tr) (r:Tr):cU (xs++[r])=cU xs+eW r:=by
 induction xs with
 |nil=>rw[aT,cU,cU,cU];omega
 |cons x xs ih=>rw[aP,cU,cU,ih];omega
theorem tH.snoc5 {d n m:Nat} {seen:List (List UInt8)} {ks:List ByteArray} {xs:List Tr} (h:tH 5 d n seen ks xs) {z:ByteArray} {r:Tr} (hz:kb z∉seen) (hr:rT r/\gJ r+(d+1)<=65) (hm:m=n+eW r):tH 5 d m (seen++[kb z]) (ks++[z]) (xs++[r]):=by
 obtain⟨h1,h2,h3⟩:=h.m5 rfl;refine⟨h.kind,fun y hy=> ?_,fun _=>⟨by simp[h1],?_,by rw[h3];simp⟩,fun e=>absurd rfl e,fun e=>absurd e uAv,by have:=h.num;rw[xE];omega⟩
 ·exact Af2
 ·rw[aLm]
  refine⟨h2,by simp,fun a ha b hb=> ?_⟩;rw[bV.1 hb];rintro rfl;exact hz (by rw[h3];exact wQ ha)
theorem tH.snoc4 {d n m:Nat} {seen:List (List UInt8)} {ks:List ByteArray} {xs:List Tr} (h:tH 4 d n seen ks xs) {r:Tr} (hr:rT r/\gJ r+(d+1)<=65) (hm:m=n+eW r):tH 4 d m seen ks (xs++[r]):=by
 refine⟨h.kind,fun y hy=> ?_,fun e=>absurd e uAv,h.m4,fun e=>absurd e uAv,by have:=h.num;rw[xE];omega⟩;exact Af2
theorem tH.snoc6 {d n m:Nat} {seen:List (List UInt8)} {ks:List ByteArray} {xs:List Tr} (h:tH 6 d n seen ks xs) {r:Tr} (hz:dW (cP r)∉seen) (hr:rT r/\gJ r+(d+1)<=65) (hm:m=n+eW r):tH 6 d m (seen++[dW (cP r)]) ks (xs++[r]):=by
 obtain⟨h1,h2⟩:=h.m6 rfl;refine⟨h.kind,fun y hy=> ?_,fun e=>absurd e uAv,h.m4,fun _=>⟨by rw[h1];simp,?_⟩,by have:=h.num;rw[xE];omega⟩
 ·exact Af2
 ·rw[aLm]
  refine⟨h2,by simp,fun a ha b hb=> ?_⟩;rw[bV.1 hb];rintro rfl;exact hz ha
theorem tH.start {k:Int} (hk:k=4\/k=5\/k=6) (d n:Nat) (hn:1<=n):tH k d n [] [] []:=
 ⟨hk,(fun y hy=>by cases hy),(fun _=>⟨rfl,lO,rfl⟩),(fun _=>rfl),(fun _=>⟨rfl,lO⟩),(by rw[cU];omega)⟩
theorem Bld.later {B b:Nat} {l:List UInt8} {w w1:World} (h:Bld B b l w) (hb:Below w.heap.size w w1):Bld B b l w1:=by
 have key:∀p,Lib.BuilderAtF 82 5 B b p (Lib.byteCells l) w->Lib.BuilderAtF 82 5 B b p (Lib.byteCells l) w1:=by
  rintro p ⟨hB,v,jf,di,bn⟩;have hlt:b<w.heap.size:=(gZ jf)
  exact⟨hB,v,(hb.block b hlt).trans jf,di.kept (row:=none) ⟨hb.os,hb.tape,hb.output,hb.size,fun k hk _=>hb.block k hk⟩ uGx,bn⟩
 rcases h with h|h
 ·exact .inl (key _ h)
 ·exact .inr (key _ h)
theorem Bld.block {B b:Nat} {l:List UInt8} {w:World} (h:Bld B b l w):∃cs T fr,w.heap[b]? =some (.cells cs T fr)/\T≠3:=by
 rcases h with⟨_,v,jf,_⟩|⟨_,v,jf,_⟩<;>exact⟨_,_,_,jf,by decide⟩
theorem Bld.lt {B b:Nat} {l:List UInt8} {w:World} (h:Bld B b l w):b<w.heap.size:=by
 obtain⟨_,_,_,h,_⟩:=h.block;exact(gZ h)
structure Tx (w wl:World) (txt:List UInt8):Prop where
 below:Below w.heap.size w wl
 bld:Bld w.heap.size w.heap.size txt wl
theorem Tx.start (w:World):Tx w (w.alloc (.cells #[.pointer none,.slice none 0 0] 82)) []:=⟨Below.newly' _ _,aL6 w⟩
theorem Tx.more {w wl w1:World} {txt:List UInt8} (h:Tx w wl txt) (hb:Below wl.heap.size wl w1):Tx w w1 txt:=⟨h.below.trans (hb.mono (eH h.bld.lt)),h.bld.later hb⟩
theorem Tx.wrote {w wl w1:World} {txt Q5:List UInt8} (h:Tx w wl txt) (hk:mX w.heap.size w.heap.size wl w1) (hb:Bld w.heap.size w.heap.size Q5 w1):Tx w w1 Q5:=⟨h.below.trans hk.1,hb⟩
theorem aBY {ops:Array Oper} {rest:List Oper} {o:Oper} {a:Act} {w:World} {Q:Exit->Act->World->Prop} (fj:o.guard=none) (ty:TypeId) (x y:Operand) (ho:o.op=.store ty x y)
  (X k:Nat) (c':Array Value) (hx:a.eval x=.pointer (some ⟨X,k,none⟩)) (hy:a.eval y=.agg c') (T:TypeId) (c:Array Value) (hB:w.heap[X]? =some (.cells c T (0,0)))
  (hi:(Tryz.prog.info? ty).map (·.size)=some c'.size) (hk:k+c'.size<=c.size) (h1:c'.all (·.oneCell')=true) (d:Array Value) (hd:(c.toList.take k++c'.toList++c.toList.drop (k+c'.size)).toArray=d)
  (h:∀w',w'.heap[X]? =some (.cells d T (0,0))->iL X w w'->wpList Tryz.prog ops Q rest (a.put o.dst undef) w'):wpList Tryz.prog ops Q (o::rest) a w:=
 gC fj fun _ hK=>by
  have:=lZ (P:=Tryz.prog) X k T c'.toList 0 c w hB uKw (fun v hv=>(cD.1 h1) v (by simpa using hv));simp only[jV,bM,hd]at this;have cr:(storeVar ty ⟨X,k,none⟩ (.agg c')).run Tryz.prog w=.ok () (w.setRow X d):=by
   exact Af7
  unfold Oper.wp execOp;simp only[ho,hx,hy,Instr.storeAt,Instr.sureAddr,eG,eZ,cR,cr];exact Am2
theorem aKr (x0 x1 x2 y0 y1 y2 z0 z1 z2:Value):((#[x0,x1,x2,y0,y1,y2]:Array Value).toList.take 3++(#[z0,z1,z2]:Array Value).toList++(#[x0,x1,x2,y0,y1,y2]:Array Value).toList.drop (3+(#[z0,z1,z2]:Array Value).size)).toArray=#[x0,x1,x2,z0,z1,z2]:=rfl
theorem gQ:(Tryz.prog.info? 24).map (·.size)=some 2:=by kernel_rfl
theorem aTA (w:World) (s:Nat) (n:Int) (S:Nat->Prop):
  Calls Tryz.prog 70 #[.agg #[.int .u64 (s:Int),.int .i64 n]] w fun r w'=>∃c,r=.returned (.agg c)/\fG S w' s n [] c/\Below w.heap.size w w':=by
 obtain⟨w1,ag⟩:∃w1,(w.alloc (.cells #[.int .u64 (s:Int),.int .i64 n] 24)).alloc (.cells #[.int .u64 0,.int .i64 0,.int .i64 0,.int .u32 0,.slice none 0 0,.slice none 0 0] 136)=w1:=⟨_,rfl⟩
 obtain⟨af,ai,aw,al⟩:=lA ag;have HX1:=iH ai;have bl:=iH aw;have HB1:=iH af;clear ai aw af al;go_enter Tryz.func70,Tryz.ntmps70;go_upto_region 1 with fail
 clear ag;go_wp2_with (first
  |(refine aW uAz 24 _ rfl w.heap.size rfl 24 _ _ _ HX1.out Tryz.underlying24 rfl gQ ?_)
  |(refine aV rfl 136 _ _ rfl (w.heap.size+1) #[.int .u64 (s:Int),.int .i64 n,.int .i64 0,.int .u32 0,.slice none 0 0,.slice none 0 0] rfl rfl 136 _ bl.out gP rfl uAx ?_;intro w6 h6 k6))
 exact aN (bE rfl _ _ (w.heap.size+1) 136 _ (0,0) _ rfl h6 Tryz.underlying136 rfl gP) rfl ⟨_,rfl,fG.zero S _ s n,HB1.out.trans (k6.below hO)⟩
theorem wV:∀(n:Nat) (l:List UInt8) (k:Nat) (o:List UInt8),l.length<=n->(iV l k o).2.2=0->(iV l k o).1.length+k+1<=o.length+(iV l k o).2.1
 |0,l,k,o,h=>by
  exact Ah5
 |n+1,l,k,o,h=>by
  rw[iV.eq_def];split
  ·simp
  ·rename_i c r
   simp only[aD]at h;split
   ·intro _;simp;omega
   ·split
    ·simp
    ·split
     ·intro he
      have:=wV n r (k+1) (o++[c]) hO he;exact Ah4
     ·split
      ·simp
      ·rename_i d r
       simp only[aD]at h;split
       ·split
        ·simp
        ·rename_i x _
         intro he;have:=wV n r (k+2) (o++[x]) hO he;exact Ah4
       ·split
        ·simp
        ·rename_i h1 r
         simp only[aD]at h;split
         ·simp
         ·split
          ·simp
          ·rename_i h2 r
           simp only[aD]at h;split
           ·simp
           ·intro he
            have:=wV n r (k+4) (o++[UInt8.ofNat (16*hval h1 true+hval h2 true)]) hO he;exact Ah4
theorem aNw (l:List UInt8) (h:(cF l).2.2=0):(cF l).1.length+2<=(cF l).2.1:=by
 unfold cF at h ⊢;split at h
 ·simp at h
 ·rename_i c r
  split at h
  ·simp at h
  ·rename_i hc
   rw[if_neg hc];have:=wV r.length r 1 [] (aA _) h;simpa using this
theorem aLE (r:List UInt8) (h:(mQ r).2.2=0) (hr:r≠[]):(jN (mQ r).1).length+1<=4*(mQ r).2.1/\(mQ r).1.t.length<=(mQ r).2.1:=by
 have hl:=((aBS r).2 h hr).1;cases r with
 |nil=>exact absurd rfl hr
 |cons c r=>
  rw[iR]at h hl ⊢;split at h
  ·rename_i h1
   rw[if_pos h1]at hl ⊢;split at h
   ·rename_i h2
    rw[if_pos h2]at hl ⊢;have h3:=aNw _ h2;have h4:=aAh (cF (c::r)).1;have h5:jN ⟨4,0,(cF (c::r)).1⟩=gI (cF (c::r)).1:=rfl;refine⟨?_,by show _<=(cF (c::r)).2.1;show(cF (c::r)).1.length<=_;omega⟩;show(jN ⟨4,0,(cF (c::r)).1⟩).length+1<=4*(cF (c::r)).2.1;rw[h5];omega
   ·rename_i h2;exact absurd h h2
  ·rename_i h1
   rw[if_neg h1]at hl ⊢;split at h
   ·rename_i h2
    rw[if_pos h2]at hl ⊢;split at h
    ·rename_i h3
     rw[if_pos h3]at hl ⊢;have h4:=aJr _ h3;have h5:jN ⟨3,(eO (c::r.takeWhile iM)).1,[]⟩=Lib.itoa (eO (c::r.takeWhile iM)).1:=rfl;refine⟨?_,aS _⟩;show(jN ⟨3,(eO (c::r.takeWhile iM)).1,[]⟩).length+1<=4*((r.takeWhile iM).length+1)
     rw[h5,h4,aD];omega
    ·rename_i h3;exact absurd h h3
   ·rename_i h2
    rw[if_neg h2]at hl ⊢;split at h
    ·rename_i h3
     rw[if_pos h3]at hl ⊢;have h5:jN ⟨2,0,(c::r).takeWhile nbS⟩=(c::r).takeWhile nbS:=rfl;refine⟨?_,aA _⟩;show(jN ⟨2,0,(c::r).takeWhile nbS⟩).length+1<=4*((c::r).takeWhile nbS).length;rw[h5];have qw:0<((c::r).takeWhile nbS).length:=hl;omega
    ·rename_i h3
     rw[if_neg h3]at hl ⊢;split at h
     ·rename_i x hx
      have h5:jN ⟨1,0,x⟩=x:=rfl;have h6:=(aC1 hx).1;refine⟨?_,aA _⟩;show(jN ⟨1,0,x⟩).length+1<=4*x.length;rw[h5];omega
     ·exact absurd h uAv
theorem aEt (l:List UInt8) (p:Nat) (h:(cB l p).2.2=0) (hk:(cB l p).1.k≠0):(jN (cB l p).1.r).length+1+4*(cB l p).1.a<=4*(cB l p).1.e/\(cB l p).1.t.length+(cB l p).1.a<=(cB l p).1.e:=by
 unfold cB at h hk ⊢;simp only at h hk ⊢;split at h
 ·rename_i h0
  rw[if_pos h0]at hk ⊢;have h1:=aLE _ h0 fun e=>hk (by rw[e];rfl)
  simp only[gS,Tok.r];refine⟨?_,by have:=h1.2;omega⟩;have h2:(jN (⟨(mQ (l.drop (p+nF (l.drop p)))).1.k,(mQ (l.drop (p+nF (l.drop p)))).1.n,(mQ (l.drop (p+nF (l.drop p)))).1.t⟩:TkR)).length=(jN (mQ (l.drop (p+nF (l.drop p)))).1).length:=rfl;have:=h1.1;omega
 ·rename_i h0;exact absurd h h0
theorem pN:(Tryz.prog.info? 28).map (·.size)=some 5:=by kernel_rfl
theorem aKz {ops:Array Oper} {rest:List Oper} {o:Oper} {a:Act} {w:World} {Q:Exit->Act->World->Prop} (j9:Region.wanted o (yielded ops a.tmps)=true) (y:Operand) (ho:o.op=.load 28 y)
  (b k:Nat) (hx:a.eval y=.pointer (some ⟨b,k,none⟩)) (cs:Array Value) (hR:w.rangeAt b k cs.toList) (hs:cs.size=5)
  (h:wpList Tryz.prog ops Q rest (a.put o.dst (.agg cs)) w):wpList Tryz.prog ops Q (o::rest) a w:=
 wpList_step fun _ hK=>by
  rw[if_pos j9];exact wp_load_mid 28 y ho b k hx _ _ hR Tryz.underlying28 rfl (by rw[pN,bM,hs]) (hK _ _ h)
theorem TrV.cells {w:World} {y:Tr} {cs:Array Value} (h:TrV w y (.agg cs)):∃k n t a l c a' l' c',cs=trC k n t (.slice a l c) (.slice a' l' c'):=by
 cases y with
 |nd k n t ks xs=>
  obtain⟨kv,xv,e,_,_,_,⟨a,c,_,_,rfl,_⟩,a',c',_,_,rfl,_⟩:=h.open';exact⟨k,n,t,a,_,c,a',_,c',Value.agg.inj e⟩
theorem aH5 (k n:Int) (t:ByteArray) (w:World):
  Calls Tryz.prog 112 #[scV k n t] w fun e w'=>e=.returned (.int .i64 (iB (scT k n t)))/\Below w.heap.size w w':=by
 have HN:=iH (Below.newly' w (.cells #[.int .i64 k,.int .i64 n,.string t] 34));have te:=aGQ t;by_cases hk:k=0\/k=1\/k=2\/k=3
 case neg=>
  have q0:(k==0)=false:=aE.2 hO;have q1:(k==1)=false:=aE.2 hO;have q2:(k==2)=false:=aE.2 hO;have q3:(k==3)=false:=aE.2 hO;have HC:Hid (iB (scT k n t)=3):=by show _=_;unfold iB;rw[if_pos (by simp only;omega)]
  clear hk te;go_enter Tryz.func112,Tryz.ntmps112;go_wp2
  go_ret;exact⟨yZ (by rw[HC.out]),HN.out⟩
 by_cases mi:t.data.toList=[]
 rw[gT mi]at te
 rotate_left
 rw[dB mi]at te
 all_goals
  have HT:=iH mi;clear mi;rcases hk with rfl|rfl|rfl|rfl
  ·exact Ab0
  ·by_cases n0:n=0
   ·subst n0
    exact Ab9
   ·have nb:(n !=0)=true:=aIL.2 n0
    by_cases n1:n=1
    ·subst n1
     exact Ab9
    ·have L7:(n !=1)=true:=aIL.2 n1
     go_enter Tryz.func112,Tryz.ntmps112;go_wp2
     go_ret;exact⟨yZ (by simp only[iB];simp[HT.out,n0,n1]),HN.out⟩
  ·exact Ab0
  ·exact Ab0
open Go.Shelf
def enS (k:ByteArray):List Value:=[.string k]
theorem aTJ (ks:List ByteArray):∀(j:Nat),(en enS ks)[j]? =(ks[j]?).map fun k=>Value.string k:=by
 induction ks with
 |nil=>intro j;simp[en]
 |cons q qs ih=>
  intro j;cases j with
  |zero=>simp[en,enS]
  |succ j=>simpa[en,enS]using ih j
theorem aNS:(Tryz.prog.info? 9).map (fun i=>(i.zero,i.size,i.bytes))=some (some (.string ⟨#[]⟩),1,16):=by kernel_rfl
def aAJ (S:Nat->Prop) (w:World) (v:Value) (ks:List ByteArray):Prop:=bY S w 1 v (en enS ks) ks.length
def uK (B:Nat) (v:Value) (ps:List ByteArray) (w:World):Prop:=w.ownsRow B 9 1 v ps.length (en enS ps)/\B<=w.heap.size
section
variable {B : Nat} {v : Value} {ps : List ByteArray} {w w1 : World}
theorem uK.nil (h:B<=w.heap.size):uK B (.slice none 0 0) [] w:=⟨rW _ _ _ _,h⟩
theorem uK.grown {row:Option Nat} (h:uK B v ps w) (hg:w.grownBy w1 row) (bn:v.ownBlock=none\/v.ownBlock≠row):uK B v ps w1:=⟨h.1.kept hg bn,aI h.2 hg.size⟩
theorem uK.later (h:uK B v ps w) (hb:Below w.heap.size w w1):uK B v ps w1:=h.grown (row:=none) ⟨hb.os,hb.tape,hb.output,hb.size,fun k hk _=>hb.block k hk⟩ uGx
theorem uK.low {B':Nat} (h:uK B v ps w) (hB:B'<=B):uK B' v ps w:=by
 exact Ac7
theorem uK.len (h:uK B v ps w):∃a c,v=.slice a ps.length c:=by
 exact Ad6
theorem uK.cut (h:uK B v ps w):bY (fun _=>True) w 1 v (en enS ps) ps.length:=(pT h.1).weak fun _ _=>trivial
theorem aNR {L:Nat} {cs:Array Value} {T:TypeId} {fr:Nat×Nat} (h:uK B v ps w) (hb:w.heap[L]? =some (.cells cs T fr)) (hT:T≠9):v.ownBlock≠some L:=by
 exact Af4
theorem uK.only {L:Nat} {cs:Array Value} {T:TypeId} {fr:Nat×Nat} (h:uK B v ps w) (k:iL L w w1) (hb:w.heap[L]? =some (.cells cs T fr)) (hT:T≠9):uK B v ps w1:=h.grown k.by_ (.inr (aNR h hb hT))
end
section
variable {B : Nat} {v : Value} {ks : List ByteArray} {w w1 : World} {S S' : Nat → Prop}
theorem aAJ.later (h:aAJ S w v ks) (hb:Below w.heap.size w w1):aAJ S w1 v ks:=bY.later h hb
theorem aAJ.any (h:aAJ S w v ks):aAJ (fun _=>True) w v ks:=bY.weak h fun _ _=>trivial
theorem aAJ.shape (h:aAJ S w v ks):∃a c,v=.slice a ks.length c/\ks.length<=c:=bY.shape h
theorem aAJ.kept {row:Option Nat} (h:aAJ S w v ks) (hg:w.grownBy w1 row) (hr:∀X,row=some X->¬S X):aAJ S w1 v ks:=bY.kept h hg hr
theorem aAJ.cell (h:aAJ S w v ks) {j:Nat} (hj:j<ks.length):∃g o c,v=.slice (some ⟨g,o,none⟩) ks.length c/\S g/\w.cell? ⟨g,o+j,none⟩=some (.string ks[j]):=by
 obtain⟨g,o,c,h1,_,hS,_,h2⟩:=bY.pos h hO;exact⟨g,o,c,h1,hS,h2 j _ (by rw[aTJ,List.getElem?_eq_getElem hj];rfl)⟩
end
end Go.Proofs.YthmfgidbcghnfaaGreatDoor
namespace Go.Proofs.YthmfgidbcghnfaaGreatDoor
open Go.RowKit
def aIE (w:World) (rb:Nat):Prop:=∃(k1 k2 k3:IntKind) (x1 x2 x3:Int) (T:TypeId) (fr:Nat×Nat),w.heap[rb]? =some (.cells #[.int k1 x1,.int k2 x2,.int k3 x3] T fr)
theorem aIE.no {w:World} {rb o:Nat} {t:ByteArray} (h:aIE w rb):w.cell? ⟨rb,o,none⟩≠some (.string t):=by
 obtain⟨k1,k2,k3,x1,x2,x3,T,fr,h⟩:=h;intro e
 match o,e with
 |0,e=>simp[World.cell?,h]at e
 |1,e=>simp[World.cell?,h]at e
 |2,e=>simp[World.cell?,h]at e
 |o+3,e=>simp[World.cell?,h]at e
theorem aAD {w w':World} {row:Option Nat} {b o:Nat} {u:Value} (hg:w.grownBy w' row) (hb:some b≠row) (h:w.cell? ⟨b,o,none⟩=some u):w'.cell? ⟨b,o,none⟩=some u:=
 (World.cell?_of_block (a:=⟨b,o,none⟩) (hg.block b (aO w _ h) hb)).trans h
theorem aQI {w w':World} {rb:Nat} (hg:w.grownBy w' (some rb)) (hr:aIE w rb) (a:Tr):∀v,TrV w a v->TrV w' a v:=by
 induction a using kD with
 |h k n t ks xs ih=>
  intro v hv;rw[TrV]at hv ⊢;obtain⟨kv,xv,h1,h2,h3,h4,⟨ka,kc,IS,ko,k1,k2,k3,k4⟩,ad,cap,b,o,h6,h7,h8,h9⟩:=hv;refine⟨kv,xv,h1,h2,h3,h4,⟨ka,kc,IS,ko,k1,k2,fun j hj=> ?_,k4⟩,ad,cap,b,o,h6,h7,h8,aBR fun j hj=> ?_⟩
  ·have hc:=k3 j hj
   exact aAD hg (fun e=>by cases e;exact hr.no hc) hc
  ·obtain⟨cs,c1,c2,c3⟩:=aFp h9 hj
   refine⟨cs,c1,fun i u hu=>aAD hg (fun e=> ?_) (c2 i u hu),ih _ (aX hj) _ c3⟩;cases e
   obtain⟨k',n',t',pa,pl,pc,qa,ql,qc,rfl⟩:=c3.cells;exact hr.no (c2 2 (.string t') rfl)
theorem TrV.but {w w':World} {rb:Nat} {a:Tr} {v:Value} (h:TrV w a v) (hg:w.grownBy w' (some rb)) (hr:aIE w rb):TrV w' a v:=aQI hg hr a v h
theorem jI {A B C:World} {row:Option Nat} (h:A.grownBy B row) (k:B.grownBy C row):A.grownBy C row:=
 ⟨k.os.trans h.os,k.tape.trans h.tape,k.output.trans h.output,aI h.size k.size,fun i hi bn=>(k.block i (bK hi h.size) bn).trans (h.block i hi bn)⟩
theorem mI {A B:World} (h:Below A.heap.size A B) (row:Option Nat):A.grownBy B row:=⟨h.os,h.tape,h.output,h.size,fun i hi _=>h.block i hi⟩
end Go.Proofs.YthmfgidbcghnfaaGreatDoor
