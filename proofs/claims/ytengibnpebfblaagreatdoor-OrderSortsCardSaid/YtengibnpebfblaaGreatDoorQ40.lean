import Derived.Test.YtengibnpebfblaaGreatDoorQ0
import Derived.Test.YtengibnpebfblaaGreatDoorQ33
set_option maxRecDepth 1000000
set_option maxHeartbeats 8000000
set_option linter.unusedSimpArgs false
namespace Go.Proofs.YtengibnpebfblaaGreatDoor
open Go.RowKit Go.ChangeShapes Go.WideShapes Go.ChangeAt
theorem aA6 {k:Int} (h:(Lit.int .i64 k).wf=true):InR k:=by
 have h2:=bI.1 (show(decide (IntKind.i64.min<=k)&&decide (k<=IntKind.i64.max))=true from h);have h3:(-9223372036854775808:Int)<=k:=of_decide_eq_true h2.1;have h4:k<=9223372036854775807:=of_decide_eq_true h2.2;unfold InR;omega
section
variable {H : Type} {enc : TypeId × Value → H} {W : World} {sp : Nat → Bool} {held : Bool} {base : Nat}
theorem aMd {n:Nat} {cs:List Value} {x:DataW H×List MemPlace} (hf:DataW.trod enc Tryz.prog W base sp held n 25 cs=some x):∃v l,cs=[v]/\TxV W v l:=by
 rcases aGs Tryz.underlying25 hf with⟨hcs,_⟩|⟨a,len,cap,m,n,D,Pl,hcs,_,hl,hm,hmm,_,hi⟩
 ·exact⟨_,[],hcs,none,0,0,0,rfl,fun h=>absurd h uBu,fun j h=>absurd h uBu,by simp⟩
 ·have h3:Tryz.prog.cellsOf 9=1:=by kernel_rfl
  have hml:len<=m:=by rw[hmm];split<;>omega
  have hel:∀i,i<len->∃y:ByteArray,W.cell? (a.add (i*1))=some (.string y):=fun i hlt=>by
   obtain⟨cs',h1,h2⟩:=hi i uAu;rw[h3]at h1;obtain⟨_,hl',hat⟩:=World.cells?_some h1;obtain⟨s,e,_,_⟩:=aIe Tryz.underlying9 h2;refine⟨s,?_⟩;have h5:=hat 0 uAu;rw[e]at h5;rw[show(a.add (i*1)).add 0=a.add (i*1) by simp[Addr.add]]at h5;exact h5
  classical
  let f:Nat->ByteArray:=fun i=>if h:i<len then(hel i h).choose else⟨#[]⟩
  have hspot:0<len->a.spot=none:=fun h0=>by
   obtain⟨y,hy⟩:=hel 0 h0;have:=World.cell?_spot hy;simpa[Addr.add]using this
  refine⟨_,(List.range len).map f,hcs,some a,cap,a.block,a.off,by simp,fun h0=> ?_,fun j hj=> ?_,by simp;omega⟩
  ·exact Af2
  ·have hj':j<len:=by simpa using hj
   have hs:=hspot uAu;have hf':((List.range len).map f)[j]=(hel j hj').choose:=by simp[f,hj']
   rw[hf'];have:=(hel j hj').choose_spec;rw[<-this];obtain⟨b,off,spot⟩:=a;simp only at hs;subst hs;rw[show(⟨b,off,none⟩:Addr).add (j*1)=⟨b,off+j,none⟩ by unfold Addr.add;split<;>simp_all]
theorem aHv:∀(z:Nat) (d:DataW H),SizeOf.sizeOf d<=z->∀(n:Nat) (cs:List Value) (ps:List MemPlace),DataW.trod enc Tryz.prog W base sp held n 28 cs=some (d,ps)->cs.length=5->∃a:Tr,TrV W a (.agg cs.toArray):=by
 intro z;induction z with
 |zero=>intro d hd;exfalso;cases d<;>simp at hd
 |succ z ih=>
  intro d hd n cs ps h hl5;obtain⟨xs,m,_,hx,_,hxl,hf⟩:=DataW.trod_struct Tryz.underlying28 h;have c0:Tryz.prog.cellsOf 3=1:=by kernel_rfl
  have c1:Tryz.prog.cellsOf 2=1:=by kernel_rfl
  have c2:Tryz.prog.cellsOf 9=1:=by kernel_rfl
  have c3:Tryz.prog.cellsOf 25=1:=by kernel_rfl
  have c4:Tryz.prog.cellsOf 26=1:=by kernel_rfl
  have c5:Tryz.prog.cellsOf 28=5:=by kernel_rfl
  match cs,hl5 with
  |[v0,v1,v2,v3,v4],_=>
   have hx5:xs.length=5:=hxl;have f0:DataW.trod enc Tryz.prog W base sp held m 3 (List.take (Tryz.prog.cellsOf 3) (List.drop 0 [v0,v1,v2,v3,v4]))=xs[0]? :=hf 0 _ rfl;have f1:DataW.trod enc Tryz.prog W base sp held m 2 (List.take (Tryz.prog.cellsOf 2) (List.drop 1 [v0,v1,v2,v3,v4]))=xs[1]? :=hf 1 _ rfl;have f2:DataW.trod enc Tryz.prog W base sp held m 9 (List.take (Tryz.prog.cellsOf 9) (List.drop 2 [v0,v1,v2,v3,v4]))=xs[2]? :=hf 2 _ rfl;have f3:DataW.trod enc Tryz.prog W base sp held m 25 (List.take (Tryz.prog.cellsOf 25) (List.drop 3 [v0,v1,v2,v3,v4]))=xs[3]? :=hf 3 _ rfl;have f4:DataW.trod enc Tryz.prog W base sp held m 26 (List.take (Tryz.prog.cellsOf 26) (List.drop 4 [v0,v1,v2,v3,v4]))=xs[4]? :=hf 4 _ rfl;rw[c0]at f0;rw[c1]at f1;rw[c2]at f2;rw[c3]at f3;rw[c4]at f4;rw[List.getElem?_eq_getElem uAu]at f0 f1 f2 f3 f4;obtain⟨y0,e0,_,w0⟩:=rN Tryz.underlying3 f0;obtain⟨y1,e1,_,w1⟩:=rN Tryz.underlying2 f1;obtain⟨y2,e2,_,w2⟩:=aIe Tryz.underlying9 f2;obtain⟨y3,l3,e3,w3⟩:=aMd f3;obtain rfl:v0=.int .i64 y0:=(lE e0).1;obtain rfl:v1=.int .i64 y1:=(lE e1).1;obtain rfl:v2=.string y2:=(lE e2).1;obtain rfl:v3=y3:=(lE e3).1;have hsz:SizeOf.sizeOf xs[4].1<SizeOf.sizeOf d:=by
    have h1:d=.agg (xs.map (·.1)):=(zQ hx).1;have h2:xs[4].1∈xs.map (·.1):=aEH (aO _);have h3:=List.sizeOf_lt_of_mem h2;rw[h1];simp only[DataW.agg.sizeOf_spec];omega
   rcases aGs Tryz.underlying26 f4 with⟨hcs,_⟩|⟨a,len,cap,m',n',D,Pl,hcs,_,hl,hm,hmm,hx4,hi⟩
   ·obtain rfl:v4=.slice none 0 0:=(lE hcs).1
    refine⟨.nd y0 y1 y2 l3 [],?_⟩;rw[TrV];exact⟨v3,_,rfl,w2,aA6 w0,aA6 w1,w3,none,0,0,0,rfl,fun h=>absurd h uBu,by simp,by rw[TrL];trivial⟩
   ·obtain rfl:v4=.slice (some a) len cap:=(lE hcs).1
    have hml:len<=m':=by rw[hmm];split<;>omega
    have hD:∀i,i<len->SizeOf.sizeOf (D i)<=z:=fun i hlt=>by
     have h1:xs[4].1=.slice ((List.range len).map D) ((List.range (m'-len)).map fun j=>D (len+j)):=by rw[hx4]
     have h2:D i∈(List.range len).map D:=aEH (fL.2 hlt);have h3:=List.sizeOf_lt_of_mem h2;rw[h1]at hsz;simp only[DataW.slice.sizeOf_spec]at hsz;omega
    have hel:∀i,i<len->∃(y:Tr) (cs:Array Value),cs.size=5/\(∀j u,cs.toList[j]? =some u->W.cell? ((a.add (i*5)).add j)=some u)/\TrV W y (.agg cs):=fun i hlt=>by
     obtain⟨cs',h1,h2⟩:=hi i uAu;rw[c5]at h1;obtain⟨_,hl',hat⟩:=World.cells?_some h1;obtain⟨y,hy⟩:=ih (D i) (hD i hlt) n' cs' _ h2 hl';refine⟨y,cs'.toArray,by simpa using hl',fun j u hu=> ?_,hy⟩;have hu':cs'[j]? =some u:=by simpa using hu
     have hj:j<5:=by have:=(List.getElem?_eq_some_iff.1 hu').1;omega
     rw[hat j hj];exact hu'
    classical
    let f:Nat->Tr:=fun i=>if h:i<len then(hel i h).choose else iE
    have hspot:0<len->a.spot=none:=fun h0=>by
     obtain⟨y,cs,h5,hy,_⟩:=hel 0 h0;have:=World.cell?_spot (hy 0 cs[0] uBu);simpa[Addr.add]using this
    refine⟨.nd y0 y1 y2 l3 ((List.range len).map f),?_⟩;rw[TrV];refine⟨v3,_,rfl,w2,aA6 w0,aA6 w1,w3,some a,cap,a.block,a.off,by simp,fun h0=> ?_,by simp;omega,zU fun j hj=> ?_⟩
    ·exact Af2
    ·have hj':j<len:=by simpa using hj
     have hs:=hspot uAu;have hf':((List.range len).map f)[j]=(hel j hj').choose:=by simp[f,hj']
     rw[hf'];obtain⟨cs,h5,hy,ht⟩:=(hel j hj').choose_spec;refine⟨cs,h5,fun k u hu=> ?_,ht⟩;have:=hy k u hu;rw[<-this];obtain⟨b,off,spot⟩:=a;simp only at hs;subst hs;rw[show(⟨b,off,none⟩:Addr).add (j*5)=⟨b,off+j*5,none⟩ by unfold Addr.add;split<;>simp_all,show(⟨b,off+j*5,none⟩:Addr).add k=⟨b,off+j*5+k,none⟩ by unfold Addr.add;split<;>simp_all]
end
end Go.Proofs.YtengibnpebfblaaGreatDoor
namespace Go.Proofs.YtengibnpebfblaaGreatDoor
open Go.RowKit Go.ChangeShapes Go.WideShapes Go.ChangeAt
theorem aAq {P:Program} {W:World}:∀(i:Nat) {l:List (String×DataW Unit)},laidMet P l W->laidMet P (l.drop i) W
 |0,_,h=>by rw[rM];exact h
 |_+1,[],h=>h
 |i+1,_::_,h=>aAq i h.tail
theorem tab6_of_laid {W:World} (h:laidMetH Tryz.prog Rows.orderTwoRow.laid W):fW W:=by
 rw[MakeChecks.laidMetH_plain _ _ _ hO]at h;have ht:Lib.TabIs Tryz.prog W (Rows.orderTwoRow.named.getD 0 (String.ofList [])) .u8 (Lib.deBruijn32tab.map fun n:Nat=>(n:Int)):=
  Lib.tabIs_of_head (rest:=Rows.orderTwoRow.laid.drop (0+1)) (g:=1) (t:=228) (e:=5) (n:=32) hO hO Tryz.underlying228 Tryz.underlying5 hO hO (aAq 0 h)
 intro j hj;have h1:=ht.cell (g:=1) hO j (by simpa[Lib.deBruijn32tab]using hj);rw[h1];congr 2
 rw[List.getD_eq_getElem?_getD,List.getD_eq_getElem?_getD,List.getElem?_map];cases Lib.deBruijn32tab[j]? <;>rfl
section
variable {H : Type} {enc : TypeId × Value → H} {W : World} {sp : Nat → Bool} {held : Bool} {r : Reach} {b0 base : Nat} {v : Value} {d : DataW H} {ps : List MemPlace}
theorem conf_open (hval:Value.okWide Tryz.prog W r b0 24 v) (hd:DataW.Trod enc Tryz.prog W base sp held 24 v d ps):
  ∃(s:Nat) (n:Int),v=.agg #[.int .u64 (s:Int),.int .i64 n]/\s<18446744073709551616:=by
 obtain⟨v0,v1,y0,y1,m,rfl,rfl,rfl,h0,h1⟩:=Go.Joins.open_agg2 Tryz.underlying24 hO hO hval hd;obtain⟨k,e0,rfl,w0⟩:=rN Tryz.underlying22 h0;obtain⟨n,e1,rfl,w1⟩:=rN Tryz.underlying3 h1;simp only[eH,aAA]at e0 e1;subst e0 e1;have h2:=bI.1 (show(decide (IntKind.u64.min<=k)&&decide (k<=IntKind.u64.max))=true from w0);have h3:(0:Int)<=k:=of_decide_eq_true h2.1;have h4:k<=18446744073709551615:=of_decide_eq_true h2.2;exact⟨k.toNat,n,by rw[Int.toNat_of_nonneg h3],by omega⟩
theorem aOi (hval:Value.okWide Tryz.prog W r b0 67 v) (hd:DataW.Trod enc Tryz.prog W base sp held 67 v d ps):
  ∃(k n:Int) (t:ByteArray),v=.agg #[.int .i64 k,.int .i64 n,.string t]/\InR k/\InR n/\t.size<=maxLen:=by
 obtain⟨v0,v1,v2,y0,y1,y2,m,rfl,rfl,rfl,h0,h1,h2⟩:=Go.Joins.open_agg3 Tryz.underlying67 hO hO hval hd;obtain⟨k,e0,rfl,w0⟩:=rN Tryz.underlying3 h0;obtain⟨n,e1,rfl,w1⟩:=rN Tryz.underlying3 h1;obtain⟨t,e2,rfl,w2⟩:=aIe Tryz.underlying9 h2;simp only[eH,aAA]at e0 e1 e2;subst e0 e1 e2;exact⟨k,n,t,rfl,aA6 w0,aA6 w1,w2⟩
theorem tree_open (hval:Value.okWide Tryz.prog W r b0 28 v) (hd:DataW.Trod enc Tryz.prog W base sp held 28 v d ps):∃a:Tr,TrV W a v:=by
 obtain⟨cs,rfl,hsz⟩:=okWide_struct Tryz.underlying28 hval;obtain⟨fuel,hf⟩:=hd;have h5:cs.size=5:=hsz.trans hO;obtain⟨a,ha⟩:=aHv _ d (aE _) _ _ _ hf (by simpa[Value.cells]using h5);exact⟨a,by simpa[Value.cells]using ha⟩
theorem aJ3 {α:Type} (z:α) {T e:TypeId} {c:Nat} (hc0:0<c) {R:α->Addr->Prop} (ht:Tryz.prog.underlying T=some (.slice e)) (hc:Tryz.prog.cellsOf e=c)
  (hval:Value.okWide Tryz.prog W r b0 T v) (hd:DataW.Trod enc Tryz.prog W base sp held T v d ps)
  (hel:∀(n:Nat) (cs:List Value) (x:DataW H×List MemPlace) (a:Addr),W.cells? base a c=some cs->DataW.trod enc Tryz.prog W base sp held n e cs=some x->∃y,R y a):
  ∃(l:List α) (a:Option Addr) (cap b o:Nat),v=.slice a l.length cap/\(0<l.length->a=some ⟨b,o,none⟩)/\(∀j (hj:j<l.length),R l[j] ⟨b,o+j*c,none⟩)/\l.length<=maxLen:=by
 obtain⟨a0,len,cap,rfl⟩:=okWide_slice ht hval;obtain⟨fuel,hf⟩:=hd;rcases aGs ht hf with⟨hcs,_⟩|⟨a,len',cap',m,n,D,Pl,hcs,_,hl,hm,hmm,_,hi⟩
 ·simp[Value.cells]at hcs
  obtain⟨rfl,rfl,rfl⟩:=hcs;exact⟨[],none,0,0,0,rfl,fun h=>absurd h uBu,fun j h=>absurd h uBu,by simp⟩
 ·simp[Value.cells]at hcs
  obtain⟨rfl,rfl,rfl⟩:=hcs;have hml:len<=m:=by rw[hmm];split<;>omega
  have hel':∀i,i<len->∃y:α,R y (a.add (i*c)):=fun i hlt=>by
   obtain⟨cs',h1,h2⟩:=hi i uAu;rw[hc]at h1;exact hel _ _ _ _ h1 h2
  classical
  let f:Nat->α:=fun i=>if h:i<len then(hel' i h).choose else z
  have hspot:0<len->a.spot=none:=fun h0=>by
   obtain⟨cs',h1,_⟩:=hi 0 uAu;rw[hc]at h1;obtain⟨_,hl',hat⟩:=World.cells?_some h1;have h2:=hat 0 hc0;have h3:cs'[0]? =some cs'[0]:=List.getElem?_eq_getElem uAu;rw[h3]at h2;have:=World.cell?_spot h2;simpa[Addr.add]using this
  refine⟨(List.range len).map f,some a,cap,a.block,a.off,by simp,fun h0=> ?_,fun j hj=> ?_,by simp;omega⟩
  ·exact Af2
  ·have hj':j<len:=by simpa using hj
   have hs:=hspot uAu;have hf':((List.range len).map f)[j]=(hel' j hj').choose:=by simp[f,hj']
   rw[hf'];have:=(hel' j hj').choose_spec;obtain⟨y,hy⟩:∃y,y=(hel' j hj').choose:=⟨_,rfl⟩
   rw[<-hy]at this ⊢;obtain⟨b,off,spot⟩:=a;simp only at hs;subst hs;rw[show(⟨b,off,none⟩:Addr).add (j*c)=⟨b,off+j*c,none⟩ by unfold Addr.add;split<;>simp_all]at this;exact this
end
end Go.Proofs.YtengibnpebfblaaGreatDoor
namespace Go.Proofs.YtengibnpebfblaaGreatDoor
open Go.RowKit
theorem aNI (w:World) (a:Tr) (v:Value) (hv:TrV w a v) (hfew:a.ks.length<=2000):Calls Tryz.prog 80 #[v] w fun e w'=>e=.returned (.int .i64 (nQ a))/\Below w.heap.size w w':=by
 obtain⟨k,n,t,ks,xs⟩:=a;obtain⟨kv,xv,rfl,ht,hk,hn,⟨kd,kcap,kb1,ko,rfl,k1,k2,k3⟩,ad,cap,bb,oo,rfl,h1,hmax,h2⟩:=hv.open';simp only[Tr.ks]at hfew;have hxm:(xs.length:Int)<=9223372036854775807:=by unfold maxLen at hmax;omega
 obtain⟨lk,hlk⟩:∃lk,lk=ks.length:=⟨_,rfl⟩
 obtain⟨N,hN⟩:∃N,N=xs.length:=⟨_,rfl⟩
 rw[<-hlk]at k1 hfew ⊢;rw[<-hN]at hxm ⊢;obtain⟨w1,hw1⟩:∃w1,w.alloc (.cells (trC k n t (.slice kd lk kcap) (.slice ad N cap)) 28)=w1:=⟨_,rfl⟩
 obtain⟨hb1,hx1,hs1⟩:=eA hw1;have cx0:w1.cell? ⟨w.heap.size,0,none⟩=some (.int .i64 k):=aK hx1 rfl;have cx1:w1.cell? ⟨w.heap.size,1,none⟩=some (.int .i64 n):=aK hx1 rfl;have cx2:w1.cell? ⟨w.heap.size,2,none⟩=some (.string t):=aK hx1 rfl;have cx3:w1.cell? ⟨w.heap.size,3,none⟩=some (.slice kd lk kcap):=aK hx1 rfl;have cx4:w1.cell? ⟨w.heap.size,4,none⟩=some (.slice ad N cap):=aK hx1 rfl;have HX1:=iH hx1;have HW:=iH hb1;have HSK:=iH (fun W=>aBm k n t W);have HPL:=iH (fun W=>aFd W k n t kd lk kcap ad N cap);have HKO:=iH (And.intro k1 (And.intro hlk hN));have HKC:=iH k2;have hks0:(ks≠[])↔0<lk:=by rw[hlk];exact List.length_pos_iff.symm
 have hown:nQ (.nd k n t ks xs)=if k<0\/6<k then 3 else if k<=3 then(if ks≠[]\/xs.length≠0 then 1 else fH (k,n,kb t))else if n≠0\/t≠⟨#[]⟩then 1 else if(k=5/\ks.length≠xs.length)\/(k≠5/\ks≠[])then 1 else if¬ks.Nodup then 6 else 0:=rfl
 clear hb1 hx1 hs1 k1 k2 h1 h2 ht hmax k3 hv hk hn;have HLL:=iH (And.intro hlk (And.intro hN hks0));clear hlk hN hks0;by_cases c1:k<0
 ·have hv0:=hown
  rw[if_pos (.inl c1)]at hv0;clear hown;have HOW:Hid (nQ (.nd k n t ks xs)=3):=hv0;exact Aa5
 by_cases c2:6<k
 ·have hv0:=hown
  rw[if_pos (.inr c2)]at hv0;have c1':decide (k<0)=false:=fA c1;clear hown c1;have HOW:Hid (nQ (.nd k n t ks xs)=3):=hv0;exact Aa5
 rw[if_neg uAu]at hown;have d1:decide (k<0)=false:=fA c1;have d2:decide (6<k)=false:=fA c2;have hk6:0<=k/\k<=6:=by omega
 have HK6:=iH hk6;clear c1 c2 hk6;by_cases c3:k<=3
 ·rw[if_pos c3]at hown
  by_cases c4:0<lk
  ·have hv0:=hown
   rw[if_pos (.inl (HLL.out.2.2.2 c4))]at hv0;clear hown;have HOW:Hid (nQ (.nd k n t ks xs)=1):=hv0;exact Aa5
  obtain rfl:lk=0:=by omega
  clear c4;by_cases c5:0<N
  ·have hv0:=hown
   rw[if_pos (.inr (by rw[<-HLL.out.2.1];omega))]at hv0;clear hown;have HOW:Hid (nQ (.nd k n t ks xs)=1):=hv0;exact Aa5
  obtain rfl:N=0:=by omega
  clear c5;have hv0:=hown;rw[if_neg (fun h=>h.elim (fun h=>absurd (HLL.out.2.2.1 h) uAu) (fun h=>by rw[<-HLL.out.2.1]at h;omega))]at hv0;have HOW:Hid (nQ (.nd k n t ks xs)=fH (k,n,t.data.toList)):=hv0;clear hown hv0;have HW2:Hid (Below w1.heap.size w1 w1):=aY _ _;go_enter Tryz.func80,Tryz.ntmps80;go_upto_region 1 with fail
  clear hw1;go_wp2_with (first
   |(refine bR rfl 28 _ rfl w.heap.size rfl 28 _ _ _ HX1.out Tryz.underlying28 rfl eF ?_)
   |(go_at_call 68;(with_reducible refine(HPL.out _).mono ?_);rintro r V ⟨rfl,hb⟩;replace HW:=iH (tW HW.out hb);clear hb)
   |(go_at_call 97;(with_reducible refine(HSK.out _).mono ?_);rintro r V ⟨rfl,hb⟩;replace HW:=iH (tW HW.out hb);clear hb))
  have hb:=HW.out;go_ret;exact⟨by rw[HOW.out];rfl,hb⟩
 rw[if_neg c3]at hown;have d3:decide (k<=3)=false:=fA c3;by_cases c6:n=0
 case neg=>
  have hv0:=hown;rw[if_pos (.inl c6)]at hv0;clear hown c3;have HOW:Hid (nQ (.nd k n t ks xs)=1):=hv0;exact Aa5
 subst c6;by_cases c7:t=⟨#[]⟩
 case neg=>
  have te0:t.toList.isEmpty=false:=by rw[qY];exact fA fun h=>c7 ((aIq t).1 h)
  have hv0:=hown;rw[if_pos (.inr c7)]at hv0;clear hown c3 c7;have HOW:Hid (nQ (.nd k 0 t ks xs)=1):=hv0;exact Aa5
 have te1:t.toList.isEmpty=true:=by rw[qY,c7];rfl
 rw[if_neg (by rintro(h|h)<;>contradiction)]at hown;clear c7;by_cases c8:k=5
 ·subst c8
  have hlkM:(lk:Int)<=2000:=by omega
  by_cases c9:(lk:Int)=(N:Int)
  case neg=>
   have hv0:=hown;rw[if_pos (.inl ⟨rfl,by rw[<-HLL.out.1,<-HLL.out.2.1];omega⟩)]at hv0;clear hown c3;have HOW:Hid (nQ (.nd 5 0 t ks xs)=1):=hv0;exact Aa5
  rw[if_neg (fun h=>h.elim (fun h=>by rw[<-HLL.out.1,<-HLL.out.2.1]at h;omega) (fun h=>h.1 rfl))]at hown;clear c3;have HOW:=iH hown;clear hown cx0 cx1 cx2 cx4;go_enter Tryz.func80,Tryz.ntmps80;go_upto_region 1 with fail
  clear hw1;have cx0:w1.cell? ⟨w.heap.size,0,none⟩=some (.int .i64 5):=aK HX1.out rfl;have cx1:w1.cell? ⟨w.heap.size,1,none⟩=some (.int .i64 0):=aK HX1.out rfl;have cx2:w1.cell? ⟨w.heap.size,2,none⟩=some (.string t):=aK HX1.out rfl;have cx4:w1.cell? ⟨w.heap.size,4,none⟩=some (.slice ad N cap):=aK HX1.out rfl;have HW0:Hid (Below w1.heap.size w1 w1):=aY _ _;go_wp2_with fail
  clear cx0 cx1 cx2 cx4;clear cx3;go_loopw [3,4,67,71] (fun a3 a4 i a71 wl=>∃j:Nat,j<=lk/\i=.int .i64 (j:Int)/\(∃c,c=a3)/\(∃c,c=a4)/\(∃c,c=a71)/\Hid (ks.take j).Nodup/\Hid (Below w1.heap.size w1 wl)) (fun _ _ i _ _=>lk-(intOf i).toNat)
  case atStart=>exact⟨0,aQ _,rfl,⟨_,rfl⟩,⟨_,rfl⟩,⟨_,rfl⟩,by show List.Nodup _;simp,HW0.out⟩
  case round=>
   clear HW0;obtain⟨j,hj,rfl,_,_,_,HND,HB⟩:=hrel;by_cases hlt:j<lk
   ·have hlt':(j:Int)<(lk:Int):=by omega
    have i0:(0:Int)<=(j:Int):=by omega
    have hjk:j<ks.length:=by rw[<-HKO.out.2.1];exact hlt
    have hkd:kd=some ⟨kb1,ko,none⟩:=HKO.out.1 uAu;subst hkd;obtain⟨y,hy⟩:∃y,y=ks[j]:=⟨_,rfl⟩
    have HYE:=iH hy;have HCY:=HKC.out j hjk;rw[<-hy]at HCY;replace HCY:=iH HCY;have HBR:=HB;clear HB hy;go_wp2_with fail
    go_loopw [4,71] (fun a4 i wl=>∃q:Nat,q<=j/\i=.int .i64 (q:Int)/\(∃c,c=a4)/\Hid (∀q' (h:q'<q) (h2:q'<ks.length),ks[q']≠y)/\Hid (Below w1.heap.size w1 wl)) (fun _ i _=>j-(intOf i).toNat)
    case atStart=>exact⟨0,aQ _,rfl,⟨_,rfl⟩,(fun q' h=>absurd h (dD q')),HBR.out⟩
    case round=>
     clear HBR;obtain⟨q,hq,rfl,_,HNE,HB⟩:=hrel;by_cases hqj:q<j
     ·have hqj':(q:Int)<(j:Int):=by omega
      have q0:(0:Int)<=(q:Int):=by omega
      have hql:(q:Int)<(lk:Int):=by omega
      have hqk:q<ks.length:=by omega
      obtain⟨z,hz⟩:∃z,z=ks[q]:=⟨_,rfl⟩
      have HZE:=iH hz;have hcz:=HKC.out q hqk;rw[<-hz]at hcz;have hbw:=tW HW.out HB.out;have ccz:_=some (Value.string z):=(hbw.cell (aM w _ hcz)).trans hcz;have ccy:_=some (Value.string y):=(hbw.cell (aM w _ HCY.out)).trans HCY.out;have cx3:=aK (kW HB.out HX1.out) (j:=3) (v:=.slice (some ⟨kb1,ko,none⟩) lk kcap) rfl;clear hcz hz hbw;by_cases e:y=z
      ·have qy:(y.toList==z.toList)=true:=by rw[e];exact tA _
       have hdup:¬ks.Nodup:=fun h=>by
        have h1:ks[q]=ks[j]:=by rw[<-HZE.out,<-HYE.out,e]
        exact(eK.1 h) q j hqk hjk hqj h1
       have HRE:Hid (nQ (.nd 5 0 t ks xs)=6):=by
        show _=_;rw[HOW.out,if_pos hdup]
       clear e hdup HOW;go_wp2_with (go_quiet (fail))
       go_ret;exact⟨by rw[HRE.out];rfl,HW.out.trans ((HB.out.trans ((Below.drewMany (aY _ _) _).mono HB.out.size)).mono HW.out.size)⟩
      ·exact Ab3
     ·obtain rfl:q=j:=by omega
      have hqj':¬(q:Int)<(q:Int):=by omega
      have HN2:Hid (ks.take (q+1)).Nodup:=by
       exact Ad2
      exact Ag0
   ·obtain rfl:j=lk:=by omega
    have hlt':¬(j:Int)<(j:Int):=by omega
    have hnd:=HND.out;rw[HKO.out.2.1,eN]at hnd;have HRE:Hid (nQ (.nd 5 0 t ks xs)=0):=by
     show _=_;rw[HOW.out,if_neg (fun h=>h hnd)]
    clear hnd HOW;go_wp2_with fail
    have hb:=tW HW.out HB.out;go_ret;exact⟨by rw[HRE.out];rfl,hb⟩
 ·have d8:(k==5)=false:=bJ.2 c8
  by_cases c9:0<lk
  ·have hv0:=hown
   rw[if_pos (.inr ⟨c8,HLL.out.2.2.2 c9⟩)]at hv0;clear hown c3;have HOW:Hid (nQ (.nd k 0 t ks xs)=1):=hv0;exact Aa5
  have hl0:lk=0:=by omega
  rw[if_neg (fun h=>h.elim (fun h=>c8 h.1) (fun h=>c9 (HLL.out.2.2.1 h.2)))]at hown;have hnd:ks.Nodup:=by
   have:ks=[]:=aT (by rw[<-HKO.out.2.1];exact hl0);rw[this];exact wX
  rw[if_neg (fun h=>h hnd)]at hown;have HOW:=iH hown;subst hl0;clear hown c3 c9 hnd;go_enter Tryz.func80,Tryz.ntmps80;go_upto_region 1 with fail
  clear hw1;go_wp2_with fail
  have HW0:Hid (Below w1.heap.size w1 w1):=aY _ _;go_loopw [3,4,67,71] (fun a3 a4 i a71 wl=>i=.int .i64 0/\(∃c,c=a3)/\(∃c,c=a4)/\(∃c,c=a71)/\Hid (Below w1.heap.size w1 wl)) (fun _ _ _ _ _=>0)
  case atStart=>exact⟨rfl,⟨_,rfl⟩,⟨_,rfl⟩,⟨_,rfl⟩,HW0.out⟩
  case round=>
   clear HW0;obtain⟨rfl,_,_,_,HB⟩:=hrel;go_wp2_with fail
   have hb:=tW HW.out HB.out;go_ret;exact⟨by rw[HOW.out];rfl,hb⟩
end Go.Proofs.YtengibnpebfblaaGreatDoor
