import Derived.Test.YtengibnpebfblaaGreatDoorQ0
import Derived.Test.YtengibnpebfblaaGreatDoorQ11
set_option maxRecDepth 1000000
set_option maxHeartbeats 8000000
set_option linter.unusedSimpArgs false
namespace Go.Proofs.YtengibnpebfblaaGreatDoor
open Go.RowKit Go.Shelf Go.Lib Go.Sort
theorem uJ {α:Type} [Inhabited α] (enc:α->Value) (w:World) (blk off m:Nat) (dk:Array α) (os:Array Obj) {b:Nat} (hb:b<w.heap.size) (hne:b≠blk):(sortWorld enc w blk off m dk os).heap[b]? =w.heap[b]? :=by
 unfold sortWorld grow putRow mapBlock;simp only;rw[Array.getElem?_append_left (by simp;exact hb),Array.getElem?_modify,if_neg (fun e=>hne e.symm)];rfl
theorem aBb {α:Type} [Inhabited α] (enc:α->Value) (w:World) (blk off m:Nat) (dk:Array α) (os:Array Obj) {B:Nat} (hB:B<=w.heap.size) (hblk:B<=blk):Below B w (sortWorld enc w blk off m dk os):=
 ⟨rfl,rfl,rfl,by simp[sortWorld,grow,putRow,mapBlock],fun k hk=>uJ enc w blk off m dk os uAu uAu⟩
theorem aMp {α:Type} [Inhabited α] (enc:α->Value) (w:World) (blk off m:Nat) (d:Array α) (os:Array Obj) (hH:Holds enc w blk off d):Below w.heap.size w (sortWorld enc w blk off m d os):=by
 unfold sortWorld;rw[putRow_self enc (Sort.ahead w m) blk off d (fun j hj=>hH j hj)];exact⟨rfl,rfl,rfl,by simp[grow,Sort.ahead],fun k hk=>by
  simp only[grow,Sort.ahead];rw[Array.getElem?_append_left hk]⟩
theorem aH3 (hs:ByteArray->Nat) (b:Nat) (e:Ent) (k:ByteArray) (w:World) {fr:Nat×Nat} (h:w.heap[b]? =some (.cells (aEi hs e) 163 fr)):
  Calls Tryz.prog 145 #[pv (some b),.string k] w fun r w'=>r=.returned (.int .i64 (dM (kb e.1) (kb k)))/\w'=w:=by
 have c0:w.cell? ⟨b,0,none⟩=some (.string e.1):=aK h rfl;have HO:=iH (fun w=>yM e.1 k w);unfold pv;clear h;go_enter Tryz.func145,Tryz.ntmps145;go_wp2_with (go_at_call 40;refine(HO.out _).mono ?_;rintro r w1 ⟨rfl,hw⟩;obtain rfl:=hw)
 go_ret;exact⟨rfl,rfl⟩
def aAM (k:ByteArray) (e:Ent):Int:=dM (kb e.1) (kb k)
theorem aEp (k:ByteArray) (e:Ent):decide (aAM k e<0)=decide (kb e.1<kb k):=by
 have h:=iD (kb e.1) (kb k);have hr:=iU (kb e.1) (kb k);unfold aAM;rw[aJD,<-h];omega
theorem aGa (k:ByteArray) (e:Ent):aAM k e=0↔e.1=k:=by
 unfold aAM;rw[gJ,aNW]
theorem zD (qs:List (Nat×Ent)):∀(j:Nat),(en enE (qs.map (·.1)))[j]? =(qs[j]?).map fun q=>pv (some q.1):=by
 induction qs with
 |nil=>intro j;simp[en]
 |cons q qs ih=>
  intro j;cases j with
  |zero=>simp[en,enE]
  |succ j=>
   have:=ih j;unfold en enE at this ⊢;simp only[cG,cN,aCn,List.getElem?_cons_succ];exact this
theorem aDh {hs:ByteArray->Nat} {S:Nat->Prop} (w:World) (L:List Ent) (c:Array Value) (k:ByteArray) (h:dF hs S 0 w L c) (hL:iO L) (hn:L.length<=100000):
  Calls Tryz.prog 130 #[.agg c,.string k] w fun r w'=>r=.returned (.tuple #[.int .i64 ((mG L k).length:Nat),.bool (gL L k).isSome])/\Below w.heap.size w w':=by
 obtain⟨v,qs,rfl,h2,rfl,h4⟩:=h;obtain⟨w1,hw1⟩:∃w1,w.alloc (.cells #[.int .u32 0,.slice none 0 0,v] 96)=w1:=⟨_,rfl⟩
 have hb1:Below w.heap.size w w1:=by rw[<-hw1];exact Below.newly' _ _
 have hx1:w1.heap[w.heap.size]? =some (.cells #[.int .u32 0,.slice none 0 0,v] 96 (0,0)):=by rw[<-hw1];exact aF _ _
 have ca2:w1.cell? ⟨w.heap.size,2,none⟩=some v:=aK hx1 rfl;have HB1:=iH hb1;obtain⟨hl,h2⟩:=h2;rw[aH]at h2 hl;rcases h2 with⟨h0,rfl⟩|⟨h0,g,cp,cur,rfl,hcp,hS,hg,hc⟩
 ·obtain rfl:qs=[]:=aT h0
  have HN:=iH (fun W=>Any.slices_BinarySearchFunc_none Tryz.searchL none 0 (.string k) (.func (.func 145) #[] #[]) W);clear h4 hL hb1 hx1 hl h0;go_enter Tryz.func130,Tryz.ntmps130;go_upto_region 1 with fail
  clear hw1;go_wp2_with (go_at_call 144;refine(HN.out _).mono ?_;rintro r w2 ⟨rfl,hw⟩;obtain rfl:=hw.symm)
  go_ret2;exact⟨rfl,HB1.out⟩
 ·
  have hin:Inhabited {q:Nat×Ent//q∈qs}:=⟨⟨qs[0],aO h0⟩⟩
  obtain⟨d,hd⟩:∃d:Array {q:Nat×Ent//q∈qs},d=qs.attach.toArray:=⟨_,rfl⟩
  have hds:d.size=qs.length:=by rw[hd];simp
  have hdl:d.toList.map Subtype.val=qs:=by rw[hd,vE];exact List.attach_map_subtype_val qs
  have hda:∀j,j<d.size->qs[j]? =some (d[j]!).1:=fun j hj=>by
   exact Ae4
  have hrow:w1.heap[g]? =some (.cells cur 161 (0,0)):=kW hb1 hg;have hHo:Holds (fun q:{q:Nat×Ent//q∈qs}=>pv (some q.1.1)) w1 g 0 d:=fun j hj=>by
   have hq:=hc j (pv (some (d[j]!).1.1)) (by rw[zD,hda j hj];rfl);refine⟨by rw[dL];exact aK hrow hq,?_⟩;simp[World.frozen?,hrow]
  have hne:∀q∈qs,q.1≠g:=fun q hq e=>by
   obtain⟨_,fr,hx⟩:=h4 q hq;exact Ai3
  have hcmp:CmpLaysT Tryz.prog 145 #[] (fun q:{q:Nat×Ent//q∈qs}=>pv (some q.1.1)) (.string k) (fun q=>aAM k q.1.2) g 0 d.size w1:=fun m os dk _ x=>by
   obtain⟨_,fr,hx⟩:=h4 x.1 x.2;have hlt:=(gZ hx)
   have hx2:(sortWorld (fun q:{q:Nat×Ent//q∈qs}=>pv (some q.1.1)) w1 g 0 m dk os).heap[x.1.1]? =some (.cells (aEi hs x.1.2) 163 fr):=
    (uJ _ w1 g 0 m dk os (cQ hlt hb1.size) (hne x.1 x.2)).trans ((hb1.block _ hlt).trans hx)
   refine(aH3 hs x.1.1 x.1.2 k _ hx2).mono ?_;rintro r w' ⟨rfl,rfl⟩;exact⟨rfl,0,#[],by rw[grow_empty];rfl⟩
  have eg:∀args w,(callFunc 145 args).run Tryz.prog w=.ok (.enter 145 args) w:=lX Tryz.func145 hO rfl
  have hmono:∀a b,a<=b->b<d.size->aAM k (d[b]!).1.2<0->aAM k (d[a]!).1.2<0:=fun a b hab hb hlt=>by
   have h1:kb (d[b]!).1.2.1<kb k:=by have:=aEp k (d[b]!).1.2;simpa[hlt]using this
   have h2:kb (d[a]!).1.2.1<kb k:=by
    rcases cZ a b with hlt2|hge
    ·have hp:=eK.1 hL a b uPz uPz hlt2
     have ea:=hda a uAu;have eb:=hda b hb;rw[List.getElem?_eq_getElem uAu]at ea eb;simp only[tD,aN ea,aN eb]at hp;exact iG hp h1
    ·obtain rfl:a=b:=by omega
     exact h1
   have:=aEp k (d[a]!).1.2;simpa[h2]using this
  have hcon:=Any.slices_BinarySearchFunc Tryz.searchL (fun q:{q:Nat×Ent//q∈qs}=>pv (some q.1.1)) (fun _=>rfl) (.string k) (fun q=>aAM k q.1.2) 145 #[] g 0 cp d w1 eg hcmp hHo (gZ hrow) (by rw[hds];rw[aH]at hn;omega) hmono;change Calls Tryz.prog 144 _ _ _ at hcon
  rw[hds]at hcon;have hcnt:d.toList.countP (fun x=>decide (aAM k x.1.2<0))=(mG (qs.map (·.2)) k).length:=by
   have e:d.toList.countP (fun x=>decide (aAM k x.1.2<0))=((d.toList.map Subtype.val).map (·.2)).countP (fun e=>decide (aAM k e<0)):=by
    rw[List.countP_map,List.countP_map];rfl
   rw[e,hdl,List.countP_eq_length_filter];unfold mG;congr 2
   funext e
   exact aEp k e
  rw[hcnt]at hcon;obtain⟨N,hN⟩:∃N,N=(mG (qs.map (·.2)) k).length:=⟨_,rfl⟩
  have his:(decide (N<qs.length)&&decide (aAM k (d[N]!).1.2=0))=(gL (qs.map (·.2)) k).isSome:=by
   obtain⟨p1,p2⟩:=aGd hL k;rw[<-hN]at p1 p2;by_cases hlt:N<qs.length
   ·have ha:=hda N uAu
    have hp:=p1 (d[N]!).1.2 (by rw[List.getElem?_map,ha];rfl);rw[lY hlt,lF];cases hg:(gL (qs.map (·.2)) k).isSome with
    |true=>rw[iJ];exact(aGa k _).2 (hp.2 hg)
    |false=>
     rw[jS];intro h0;have:=hp.1 ((aGa k _).1 h0);rw[hg]at this;cases this
   ·rw[fA hlt,Bool.false_and]
    cases hg:(gL (qs.map (·.2)) k).isSome with
    |false=>rfl
    |true=>
     obtain⟨e,he,_⟩:=p2 hg;have:=(List.getElem?_eq_some_iff.1 he).1;rw[aH]at this;omega
  rw[<-hN]at hcon ⊢;rw[his]at hcon;have HC:=iH hcon;have HHO:=iH hHo;obtain⟨R,hR⟩:∃R,R=(gL (qs.map (·.2)) k).isSome:=⟨_,rfl⟩
  rw[<-hR]at HC ⊢;clear hcon his hcnt hmono eg hcmp hne hHo hrow hda hdl hd h4 hL hb1 hx1 hl hc hg hS hcp hn hN hR;go_enter Tryz.func130,Tryz.ntmps130;go_upto_region 1 with fail
  clear hw1;go_wp2_with (go_at_call 144;refine HC.out.mono ?_;rintro r w2 ⟨rfl,m,os,hw⟩;have HW2:=iH hw;clear hw)
  go_ret2;exact⟨rfl,by rw[HW2.out];exact HB1.out.trans ((aMp _ w1 g 0 m d os HHO.out).mono HB1.out.size)⟩
abbrev Sc:=Int×Int×List UInt8
def fH (s:Sc):Int:=
 if s.1<0\/3<s.1 then 3
 else if(s.1=0\/s.1=3)/\s.2.1≠0 then 1
 else if s.1≠3/\s.2.2≠[]then 1
 else if s.1=1/\s.2.1≠0/\s.2.1≠1 then 4
 else 0
def rR (c:UInt8):List UInt8:=if c=0 then[0,255]else[c]
def nI (l:List UInt8):List UInt8:=l.flatMap rR
def kX (s:Sc):List UInt8:=
 if fH s≠0 then[]else if s.1=0 then[1]else if s.1=1 then[2,bt8 s.2.1]else if s.1=2 then 3::lN s.2.1 else 4::(nI s.2.2++[0,0])
def aGQ (c:UInt8) (k:Nat) (x:List UInt8×Nat×Int):List UInt8×Nat×Int:=if x.2.2=0 then(c::x.1,x.2.1+k,0)else([],x.2.1+k,x.2.2)
def kY:List UInt8->List UInt8×Nat×Int
 |[]=>([],0,10)
 |c::r=>if c≠0 then aGQ c 1 (kY r)else match r with
  |[]=>([],1,10)
  |d::r'=>if d=0 then([],2,0)else if d=255 then aGQ 0 2 (kY r')else([],1,2)
def uB:List UInt8->Sc×Nat×Int
 |[]=>((0,0,[]),0,10)
 |c::r=>
  if c=1 then((0,0,[]),1,0)
  else if c=2 then(match r with
   |[]=>((0,0,[]),1,10)
   |b::_=>if 1<b.toNat then((0,0,[]),1,2)else((1,(b.toNat:Int),[]),2,0))
  else if c=3 then(if r.length<8 then((0,0,[]),r.length+1,10)else((2,(yG (r.take 8)).1,[]),9,0))
  else if c=4 then(if(kY r).2.2=0 then((3,0,(kY r).1),(kY r).2.1+1,0)else((0,0,[]),(kY r).2.1+1,(kY r).2.2))
  else((0,0,[]),0,2)
theorem sN (s:Sc) (h:fH s=0):s=(0,0,[])\/s=(1,0,[])\/s=(1,1,[])\/(∃n,s=(2,n,[]))\/∃t,s=(3,0,t):=by
 obtain⟨k,n,t⟩:=s;unfold fH at h;simp only at h;split at h
 ·cases h
 rename_i h1
 split at h
 ·cases h
 rename_i h2
 split at h
 ·cases h
 rename_i h3
 split at h
 ·cases h
 rename_i h4
 have hk:k=0\/k=1\/k=2\/k=3:=by omega
 rcases hk with rfl|rfl|rfl|rfl
 ·have hn:n=0:=by omega
  have ht:t=[]:=by
   rcases vZ (t=[])with h|h
   ·exact h
   ·exact absurd ⟨by decide,h⟩ h3
  subst hn ht;exact .inl rfl
 ·have ht:t=[]:=by
   rcases vZ (t=[])with h|h
   ·exact h
   ·exact absurd ⟨by decide,h⟩ h3
  subst ht;have hn:n=0\/n=1:=by omega
  rcases hn with rfl|rfl
  ·exact .inr (.inl rfl)
  ·exact .inr (.inr (.inl rfl))
 ·have ht:t=[]:=by
   rcases vZ (t=[])with h|h
   ·exact h
   ·exact absurd ⟨by decide,h⟩ h3
  subst ht;exact .inr (.inr (.inr (.inl ⟨n,rfl⟩)))
 ·have hn:n=0:=by omega
  subst hn;exact .inr (.inr (.inr (.inr ⟨t,rfl⟩)))
theorem aG8:fH (0,0,[])=0:=by decide
theorem aDo:fH (1,0,[])=0:=by decide
theorem aG7:fH (1,1,[])=0:=by decide
theorem aAY (n:Int):fH (2,n,[])=0:=by simp[fH]
theorem zJ (t:List UInt8):fH (3,0,t)=0:=by simp[fH]
theorem uU:kX (0,0,[])=[1]:=by decide
theorem sE:kX (1,0,[])=[2,0]:=by decide+kernel
theorem uT:kX (1,1,[])=[2,1]:=by decide+kernel
theorem yX (n:Int):kX (2,n,[])=3::lN n:=by simp[kX,aAY]
theorem sD (t:List UInt8):kX (3,0,t)=4::(nI t++[0,0]):=by simp[kX,zJ]
theorem aEa (s:Sc) (h:¬fH s=0):kX s=[]:=by simp[kX,h]
theorem aG5 (c:UInt8) (t:List UInt8):nI (c::t)=rR c++nI t:=by simp[nI]
theorem aAX (t:List UInt8):(nI t).length<=2*t.length:=by
 induction t with
 |nil=>simp[nI]
 |cons c t ih=>
  rw[aG5,aD,aL];have:(rR c).length<=2:=by unfold rR;split<;>simp
  omega
theorem aHg (c:UInt8) (r:List UInt8) (h:c≠0):kY (c::r)=aGQ c 1 (kY r):=by rw[kY.eq_def];simp[h]
theorem aLN (d:UInt8) (r:List UInt8):kY (0::d::r)=if d=0 then([],2,0)else if d=255 then aGQ 0 2 (kY r)else([],1,2):=by rw[kY.eq_def];simp
theorem aLO (r:List UInt8):kY (0::255::r)=aGQ 0 2 (kY r):=by rw[aLN,if_neg uAv,if_pos rfl]
theorem aCb (x:List UInt8):∀t:List UInt8,kY (nI t++0::0::x)=(t,(nI t).length+2,0)
 |[]=>by simp[nI,kY]
 |c::t=>by
  have ih:=aCb x t;rw[aG5];unfold rR;by_cases h:c=0
  ·subst h
   rw[if_pos rfl];show kY (0::255::(nI t++0::0::x))=_;rw[aLO,ih];simp[aGQ]
  ·rw[if_neg h]
   show kY (c::(nI t++0::0::x))=_;rw[aHg c _ h,ih];simp[aGQ]
theorem aJY (r:List UInt8):uB (1::r)=((0,0,[]),1,0):=by simp[uB]
theorem aES (b:UInt8) (r:List UInt8):uB (2::b::r)=if 1<b.toNat then((0,0,[]),1,2)else((1,(b.toNat:Int),[]),2,0):=by simp[uB]
theorem aM8 (r:List UInt8):uB (3::r)=if r.length<8 then((0,0,[]),r.length+1,10)else((2,(yG (r.take 8)).1,[]),9,0):=by simp[uB]
theorem aJX (r:List UInt8):uB (4::r)=if(kY r).2.2=0 then((3,0,(kY r).1),(kY r).2.1+1,0)else((0,0,[]),(kY r).2.1+1,(kY r).2.2):=by simp[uB]
theorem aHr (s:Sc) (hc:fH s=0) (hn:InR s.2.1) (x:List UInt8):uB (kX s++x)=(s,(kX s).length,0):=by
 rcases sN s hc with rfl|rfl|rfl|⟨n,rfl⟩|⟨t,rfl⟩
 ·rw[uU];exact aJY x
 ·rw[sE];show uB (2::0::x)=_;rw[aES];simp
 ·rw[uT];show uB (2::1::x)=_;rw[aES];simp
 ·rw[yX]
  show uB (3::(lN n++x))=_;have hl:=qN n;rw[aM8,if_neg (by rw[aD,hl];omega),List.take_left' hl,aCx n hn];simp[hl]
 ·rw[sD]
  have e:(4::(nI t++[0,0]))++x=4::(nI t++0::0::x):=by simp
  rw[e,aJX,aCb];simp
theorem aMQ (s:Sc):(kX s).length<=2*s.2.2.length+9:=by
 by_cases hc:fH s=0
 ·rcases sN s hc with rfl|rfl|rfl|⟨n,rfl⟩|⟨t,rfl⟩
  ·rw[uU];simp
  ·rw[sE];simp
  ·rw[uT];simp
  ·rw[yX];simp[qN]
  ·rw[sD]
   have:=aAX t;simp;omega
 ·rw[aEa s hc];simp
theorem aFp (a b:UInt8) (l r:List UInt8) (h:a<b):dM (a::l) (b::r)= -1:=(iD _ _).2 (kR.2 (.inl h))
theorem aKM (a:UInt8) (l r:List UInt8):dM (a::l) (a::r)=dM l r:=by
 unfold dM;have h1:(a::l=a::r)↔l=r:=by simp
 have h2:(a::l<a::r)↔l<r:=by
  exact Ad1
 simp only[h1,h2]
theorem aLB (a b:UInt8) (l r:List UInt8) (h:¬a=b):fN (a::l) (b::r)=0:=by simp[fN,h]
theorem aLC (a:UInt8) (l r:List UInt8):fN (a::l) (a::r)=fN l r+1:=by simp[fN]
def aGl (k l:List UInt8) (o:Int):Prop:=fN k l<k.length/\fN k l<l.length/\∀x y,dM (k++x) (l++y)=o
theorem aGl.cons {k l:List UInt8} {o:Int} (h:aGl k l o) (c:UInt8):aGl (c::k) (c::l) o:=by
 refine⟨?_,?_,fun x y=> ?_⟩
 ·rw[aLC,aL];have:=h.1;omega
 ·rw[aLC,aL];have:=h.2.1;omega
 ·rw[bC,bC,aKM];exact h.2.2 x y
theorem aGl.lt {a b:UInt8} (h:a<b) (k l:List UInt8):aGl (a::k) (b::l) (-1):=by
 have hne:¬a=b:=fun e=>by subst e;exact absurd h (mV _)
 exact⟨by rw[aLB _ _ _ _ hne];simp,by rw[aLB _ _ _ _ hne];simp,fun x y=>aFp _ _ _ _ h⟩
inductive Tr where
 |nd (k n:Int) (t:ByteArray) (ks:List ByteArray) (xs:List Tr)
namespace Tr
def k:Tr->Int|nd k _ _ _ _=>k
def n:Tr->Int|nd _ n _ _ _=>n
def t:Tr->ByteArray|nd _ _ t _ _=>t
def ks:Tr->List ByteArray|nd _ _ _ ks _=>ks
def xs:Tr->List Tr|nd _ _ _ _ xs=>xs
end Tr
abbrev iE:Tr:=.nd 0 0 ⟨#[]⟩ [] []
theorem fS {P:Tr->Prop} (h:∀k n t ks xs,(∀x∈xs,P x)->P (.nd k n t ks xs)):∀a,P a:=by
 intro a;apply Tr.rec (motive_1:=P) (motive_2:=fun l=>∀x∈l,P x)
 ·intro k n t ks xs ih;exact h k n t ks xs ih
 ·intro x hx;cases hx
 ·intro a l ha hl x hx
  rcases bA.1 hx with rfl|hx
  ·exact ha
  ·exact hl x hx
mutual
def iX:Tr->Nat
 | .nd _ _ _ _ xs=>jY xs+1
def jY:List Tr->Nat
 |[]=>0
 |x::r=>max (iX x) (jY r)
end
mutual
def fU:Tr->Nat
 | .nd _ _ _ _ xs=>eO xs+1
def eO:List Tr->Nat
 |[]=>0
 |x::r=>fU x+eO r
end
theorem vU (a:Tr):iX a=jY a.xs+1:=by cases a;rw[iX];rfl
theorem pO (a:Tr):fU a=eO a.xs+1:=by cases a;rw[fU];rfl
theorem aE3 (a:Tr):1<=fU a:=by rw[pO];omega
theorem aI0 (a:Tr):1<=iX a:=by rw[vU];omega
theorem aFw (l m:List Tr):eO (l++m)=eO l+eO m:=by
 induction l with
 |nil=>simp[eO]
 |cons x l ih=>rw[bC,eO,eO,ih];omega
theorem aLy (l m:List Tr):jY (l++m)=max (jY l) (jY m):=by
 induction l with
 |nil=>simp[jY]
 |cons x l ih=>rw[bC,jY,jY,ih];omega
theorem zZ {l m:List Tr} (h:l.Perm m):eO l=eO m:=by
 induction h with
 |nil=>rfl
 |cons x _ ih=>rw[eO,eO,ih]
 |swap x y l=>simp only[eO];omega
 |trans _ _ h1 h2=>rw[h1,h2]
theorem aDm {l m:List Tr} (h:l.Perm m):jY l=jY m:=by
 induction h with
 |nil=>rfl
 |cons x _ ih=>rw[jY,jY,ih]
 |swap x y l=>simp only[jY];omega
 |trans _ _ h1 h2=>rw[h1,h2]
theorem uP {l:List Tr} {x:Tr} (h:x∈l):fU x<=eO l:=by
 induction l with
 |nil=>cases h
 |cons y l ih=>
  rw[eO];rcases bA.1 h with rfl|h
  ·omega
  ·have:=ih h;omega
theorem aC1 {l:List Tr} {x:Tr} (h:x∈l):iX x<=jY l:=by
 induction l with
 |nil=>cases h
 |cons y l ih=>
  rw[jY];rcases bA.1 h with rfl|h
  ·omega
  ·have:=ih h;omega
theorem uR (l:List Tr):l.length<=eO l:=by
 induction l with
 |nil=>simp
 |cons x l ih=>rw[eO,aL];have:=aE3 x;omega
def wF (k:ByteArray):List UInt8:=kX (3,0,kb k)
mutual
def dG:Tr->List UInt8
 | .nd k n t ks xs=>if k<=3 then kX (k,n,kb t)else bt8 (k+1)::(eP k ks xs++[0])
def eP (k:Int):List ByteArray->List Tr->List UInt8
 |_,[]=>[]
 |ks,x::r=>(if k=5 then wF (ks.headD ⟨#[]⟩)else[])++(dG x++eP k ks.tail r)
end
mutual
def jR:Tr->Prop
  | .nd k n t ks xs=>aGk xs/\
    ((0<=k/\k<=3/\fH (k,n,kb t)=0/\InR n/\ks=[]/\xs=[])\/
     (n=0/\t=⟨#[]⟩/\((k=4/\ks=[])\/(k=5/\ks.length=xs.length/\ks.Pairwise fun a b=>kb a<kb b)\/(k=6/\ks=[]/\xs.Pairwise fun a b=>dG a<dG b))))
def aGk:List Tr->Prop
 |[]=>True
 |x::r=>jR x/\aGk r
end
theorem aJm {l:List Tr}:aGk l↔∀x∈l,jR x:=by
 induction l with
 |nil=>simp[aGk]
 |cons x l ih=>rw[aGk,ih];simp
theorem gO {a:Tr}:jR a↔(∀x∈a.xs,jR x)/\
    ((0<=a.k/\a.k<=3/\fH (a.k,a.n,kb a.t)=0/\InR a.n/\a.ks=[]/\a.xs=[])\/
     (a.n=0/\a.t=⟨#[]⟩/\((a.k=4/\a.ks=[])\/(a.k=5/\a.ks.length=a.xs.length/\a.ks.Pairwise fun a b=>kb a<kb b)\/(a.k=6/\a.ks=[]/\a.xs.Pairwise fun a b=>dG a<dG b)))):=by
  cases a with
  |nd k n t ks xs=>rw[jR,aJm];rfl
theorem jR.part {a x:Tr} (h:jR a) (hx:x∈a.xs):jR x:=(gO.1 h).1 x hx
theorem aLd:InR 0:=by unfold InR;omega
theorem aFH {s:Sc} (h:fH s=0):∃r,kX s=bt8 (s.1+1)::r:=by
 rcases sN s h with rfl|rfl|rfl|⟨n,rfl⟩|⟨t,rfl⟩
 ·exact⟨[],by rw[uU];decide+kernel⟩
 ·exact⟨[0],by rw[sE];decide+kernel⟩
 ·exact⟨[1],by rw[uT];decide+kernel⟩
 ·exact⟨lN n,by rw[yX];congr 1⟩
 ·exact⟨nI t++[0,0],by rw[sD];congr 1⟩
theorem vQ {a:Tr} (h:jR a):(∃r,dG a=bt8 (a.k+1)::r)/\0<=a.k/\a.k<=6:=by
 cases a with
 |nd k n t ks xs=>
  rw[gO]at h;simp only[Tr.k,Tr.n,Tr.t,Tr.ks,Tr.xs]at h ⊢;rcases h.2 with⟨h0,h3,hc,_⟩|⟨_,_,h⟩
  ·refine⟨?_,h0,by have:k<=3:=h3;show k<=6;omega⟩
   rw[dG,if_pos h3];exact aFH hc
  ·have hk:k=4\/k=5\/k=6:=by
    rcases h with h|h|h
    ·exact .inl h.1
    ·exact .inr (.inl h.1)
    ·exact .inr (.inr h.1)
   refine⟨?_,by show 0<=k;omega,by show k<=6;omega⟩;rw[dG,if_neg uAu];exact⟨_,rfl⟩
theorem aLL {i j:Int} (hi:0<=i/\i<=6) (hj:0<=j/\j<=6) (h:bt8 (i+1)=bt8 (j+1)):i=j:=by
 have e1:i=0\/i=1\/i=2\/i=3\/i=4\/i=5\/i=6:=by omega
 have e2:j=0\/j=1\/j=2\/j=3\/j=4\/j=5\/j=6:=by omega
 rcases e1 with rfl|rfl|rfl|rfl|rfl|rfl|rfl<;>rcases e2 with rfl|rfl|rfl|rfl|rfl|rfl|rfl<;>first|rfl|(exfalso;revert h;decide+kernel)
theorem aLK {i:Int} (hi:0<=i/\i<=6):bt8 (i+1)≠0:=by
 have e1:i=0\/i=1\/i=2\/i=3\/i=4\/i=5\/i=6:=by omega
 rcases e1 with rfl|rfl|rfl|rfl|rfl|rfl|rfl<;>decide+kernel
theorem aDd {s s':Sc} (h:fH s=0) (h':fH s'=0) (hn:InR s.2.1) (hn':InR s'.2.1) {x y:List UInt8} (e:kX s++x=kX s'++y):s=s'/\x=y:=by
 have h1:=aHr s h hn x;have h2:=aHr s' h' hn' y;rw[e,h2]at h1;have hs:s'=s:=(zQ h1).1;subst hs;exact⟨rfl,List.append_cancel_left e⟩
theorem aFJ {a b:ByteArray} {x y:List UInt8} (e:wF a++x=wF b++y):a=b/\x=y:=by
 obtain⟨h1,h2⟩:=aDd (zJ _) (zJ _) aLd aLd e;exact⟨uV (zQ (zQ h1).2).2,h2⟩
theorem aBK (a:ByteArray):∃r,wF a=4::r:=⟨_,sD _⟩
theorem aK7 (a:Tr):∀(b:Tr) (x y:List UInt8),jR a->jR b->dG a++x=dG b++y->a=b/\x=y:=by
 induction a using fS with
 |h k n t ks xs ih=>
  intro b x y ha hb e;obtain⟨k',n',t',ks',xs'⟩:=b;obtain⟨⟨r,hr⟩,ka⟩:=vQ ha;obtain⟨⟨r',hr'⟩,kb'⟩:=vQ hb;have hk:k=k':=by
   rw[hr,hr']at e;exact aLL ka kb' (lE e).1
  subst hk;clear hr hr' r r';rw[gO]at ha hb;simp only[Tr.k,Tr.n,Tr.t,Tr.ks,Tr.xs]at ha hb ka;rw[dG,dG]at e;by_cases h3:k<=3
  ·rw[if_pos h3,if_pos h3]at e
   rcases ha.2 with ha|ha
   ·rcases hb.2 with hb|hb
    ·obtain⟨_,_,hc,hi,rfl,rfl⟩:=ha
     obtain⟨_,_,hc',hi',rfl,rfl⟩:=hb;obtain⟨h1,h2⟩:=aDd hc hc' hi hi' e;have h4:=(zQ (zQ h1).2)
     have h5:=uV h4.2;have h6:n=n':=h4.1;subst h6 h5;exact⟨rfl,h2⟩
    ·exfalso;omega
   ·exfalso;omega
  ·rw[if_neg h3,if_neg h3]at e
   rw[bC,bC]at e;have e2:=(lE e).2;rw[bN,bN]at e2;rcases ha.2 with ha2|ha2
   ·exfalso;omega
   rcases hb.2 with hb2|hb2
   ·exfalso;omega
   obtain⟨rfl,rfl,ha3⟩:=ha2;obtain⟨rfl,rfl,hb3⟩:=hb2;have key:∀(xs:List Tr) (ks ks':List ByteArray) (xs':List Tr),(∀z∈xs,∀(b:Tr) (x y:List UInt8),jR z->jR b->dG z++x=dG b++y->z=b/\x=y)->(∀z∈xs,jR z)->(∀z∈xs',jR z)->(k=5->ks.length=xs.length/\ks'.length=xs'.length)->
     eP k ks xs++([0]++x)=eP k ks' xs'++([0]++y)->xs=xs'/\(k=5->ks=ks')/\x=y:=by
    intro xs;induction xs with
    |nil=>
     intro ks ks' xs' _ _ hg hl e;cases xs' with
     |nil=>
      rw[eP,eP]at e;refine⟨rfl,fun h5=> ?_,by simpa using e⟩;have:=hl h5;rw[aAD.1 this.1,aAD.1 this.2]
     |cons z r=>
      exfalso;rw[eP,eP]at e;obtain⟨⟨q,hq⟩,hk⟩:=vQ (hg z (aW ..));by_cases h5:k=5
      ·rw[if_pos h5]at e
       obtain⟨q2,hq2⟩:=aBK (ks'.headD ⟨#[]⟩);rw[hq2]at e;simp at e
      ·rw[if_neg h5,hq]at e
       simp at e;exact aLK hk e.1.symm
    |cons z r ih2=>
     intro ks ks' xs' hi hg hg' hl e;cases xs' with
     |nil=>
      exfalso;rw[eP,eP]at e;obtain⟨⟨q,hq⟩,hk⟩:=vQ (hg z (aW ..));by_cases h5:k=5
      ·rw[if_pos h5]at e
       obtain⟨q2,hq2⟩:=aBK (ks.headD ⟨#[]⟩);rw[hq2]at e;simp at e
      ·rw[if_neg h5,hq]at e
       simp at e;exact aLK hk e.1
     |cons z' r'=>
      rw[eP,eP]at e;have hz:=hg z (aW ..);have hz':=hg' z' (aW ..);have rest:ks.headD ⟨#[]⟩=ks'.headD ⟨#[]⟩\/¬k=5:=by
       by_cases h5:k=5
       ·rw[if_pos h5,if_pos h5]at e
        simp only[bN]at e;exact .inl (aFJ e).1
       ·exact .inr h5
      have e4:dG z++(eP k ks.tail r++([0]++x))=dG z'++(eP k ks'.tail r'++([0]++y)):=by
       by_cases h5:k=5
       ·rw[if_pos h5,if_pos h5]at e
        simp only[bN]at e;exact(aFJ e).2
       ·rw[if_neg h5,if_neg h5,bD,bD,bN,bN]at e
        exact e
      obtain⟨rfl,e5⟩:=hi z (aW ..) z' _ _ hz hz' e4;obtain⟨rfl,h6,h7⟩:=ih2 ks.tail ks'.tail r' (fun w hw=>hi w (aU _ hw)) (fun w hw=>hg w (aU _ hw)) (fun w hw=>hg' w (aU _ hw)) (fun h5=>by have:=hl h5;simp at this ⊢;omega) e5;refine⟨rfl,fun h5=> ?_,h7⟩;have hl':=hl h5;have h8:=h6 h5;rcases rest with h9|h9
      ·cases ks with
       |nil=>simp at hl'
       |cons c ks=>
        cases ks' with
        |nil=>simp at hl'
        |cons c' ks'=>
         simp at h8 h9;rw[h8,h9]
      ·exact absurd h5 h9
   have hl:k=5->ks.length=xs.length/\ks'.length=xs'.length:=by
    intro h5;constructor
    ·rcases ha3 with h|h|h
     ·omega
     ·exact h.2.1
     ·omega
    ·rcases hb3 with h|h|h
     ·omega
     ·exact h.2.1
     ·omega
   obtain⟨rfl,h6,h7⟩:=key xs ks ks' xs' ih ha.1 hb.1 hl e2;by_cases h5:k=5
   ·rw[h6 h5];exact⟨rfl,h7⟩
   ·have h8:ks=[]:=by
     rcases ha3 with h|h|h
     ·exact h.2
     ·exact absurd h.1 h5
     ·exact h.2.1
    have h9:ks'=[]:=by
     rcases hb3 with h|h|h
     ·exact h.2
     ·exact absurd h.1 h5
     ·exact h.2.1
    rw[h8,h9];exact⟨rfl,h7⟩
theorem aHP {a b:Tr} (ha:jR a) (hb:jR b) (e:dG a=dG b):a=b:=(aK7 a b [] [] ha hb (by rw[e])).1
end Go.Proofs.YtengibnpebfblaaGreatDoor
