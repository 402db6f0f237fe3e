import Derived.Test.YthmfgidbcghnfaaGreatDoorQ0
set_option maxRecDepth 1000000
set_option maxHeartbeats 8000000
namespace Go.Proofs.YthmfgidbcghnfaaGreatDoor
open Go.RowKit
theorem pq:(∀(a:Act) (v:Value),a.put none v=a)/\(∀(a:Act) (i:Nat) (v:Value),a.put (some i) v={a with tmps:=a.tmps.setIfInBounds i v})/\(∀(l:List Value) (i:Nat) (a:Value),l.toArray.setIfInBounds i a=(l.set i a).toArray)/\(∀(a b:Value) (l:List Value),(a::l).set 0 b=b::l)/\(∀(a b:Value) (l:List Value) (n:Nat),(a::l).set (n+1) b=a::l.set n b):=
  ⟨fun _ _=>rfl,fun _ _ _=>rfl,fun _ _ _=>List.setIfInBounds_toArray ..,fun _ _ _=>List.set_cons_zero,fun _ _ _ _=>List.set_cons_succ⟩
theorem tW {a b c:World} (h:Below a.heap.size a b) (k:Below b.heap.size b c):Below a.heap.size a c:=h.trans (k.mono h.size)
theorem iH {p:Prop} (h:p):Hid p:=h
theorem gZ {α:Type} {l:Array α} {i:Nat} {a:α} (h:l[i]? =some a):i<l.size:=(Array.getElem?_eq_some_iff.1 h).1
theorem kW {w w':World} {g:Nat} {o:Obj} (hb:Below w.heap.size w w') (h:w.heap[g]? =some o):w'.heap[g]? =some o:=(hb.block _ (Array.getElem?_eq_some_iff.1 h).1).trans h
theorem Below.drewMany {B:Nat} {w w1:World} (h:Below B w w1) (n:Nat):Below B w (w1.drewN n):=⟨h.os,h.tape,h.output,h.size,h.block⟩
theorem Below.newly' (w:World) (o:Obj):Below w.heap.size w (w.alloc o):=(bB _ _).alloc (aA _) o
theorem Below.more {w w1:World} (h:Below w.heap.size w w1) (o:Obj):Below w.heap.size w (w1.alloc o):=h.alloc h.size o
theorem aY (w:World):Below w.heap.size w w.drew:=Below.drewMany (bB _ w) 1
def yP (w:World) (v:Value) (zs:List Int):Prop:=
 ∃(a:Option Addr) (cap b o:Nat),v=.slice a zs.length cap/\(0<zs.length->a=some ⟨b,o,none⟩)/\(∀j,j<zs.length->w.cell? ⟨b,o+j,none⟩=some (.int .i64 (zs.getD j 0)))/\
  (∀n∈zs,-9223372036854775808<=n/\n<=9223372036854775807)/\zs.length<=maxLen
theorem yP.later {w w':World} {v:Value} {zs:List Int} (h:yP w v zs) (hb:Below w.heap.size w w'):yP w' v zs:=by
 obtain⟨a,cap,b,o,h1,h2,h3,h4⟩:=h;exact⟨a,cap,b,o,h1,h2,fun j hj=>(hb.cell (p:=⟨b,o+j,none⟩) (aO w _ (h3 j hj))).trans (h3 j hj),h4⟩
def iv (l:List Int):List Value:=l.map fun n=>.int .i64 n
theorem aAv (l:List Int):(iv l).length=l.length:=by simp[iv]
theorem aTt (l r:List Int):iv (l++r)=iv l++iv r:=by simp[iv]
theorem aP3 {l:List Int}:∀u∈iv l,u.oneCell'=true:=by
 intro u hu;unfold iv at hu;rw[dH]at hu;obtain⟨c,_,rfl⟩:=hu;rfl
def mV (B:Nat) (v:Value) (l:List Int) (w:World):Prop:=w.ownsRowF B 3 1 v l.length (iv l)/\B<=w.heap.size
section
variable {B : Nat} {v : Value} {l : List Int} {w w1 : World}
theorem mV.nil (h:B<=w.heap.size):mV B (.slice none 0 0) [] w:=⟨lM _ _ _ _,h⟩
theorem mV.lit (hB:B<=w.heap.size) (cs:Array Value) (l:List Int) (hc:cs.toList=iv l) (Ha:l.length<=4096):
  mV B (.slice (some ⟨w.heap.size,0,none⟩) l.length l.length) l (w.alloc (.cells cs 3)):=by
 have hl:l.length<=maxLen:=by unfold maxLen;omega
 have hs:cs.size=l.length*1:=by rw[<-bM,hc,aAv];omega
 refine⟨?_,by simp;omega⟩;have:=oP (oO (base:=B) (e:=3) (size:=1) w cs l.length hB hl hs);rwa[hc]at this
theorem mV.low {B':Nat} (h:mV B v l w) (hB:B'<=B):mV B' v l w:=by
 exact Af6
theorem mV.grown {row:Option Nat} (h:mV B v l w) (hg:w.grownBy w1 row) (bn:v.ownBlock=none\/v.ownBlock≠row):mV B v l w1:=⟨h.1.kept hg bn,aI h.2 hg.size⟩
theorem mV.later (h:mV B v l w) (hb:Below w.heap.size w w1):mV B v l w1:=h.grown (row:=none) ⟨hb.os,hb.tape,hb.output,hb.size,fun k hk _=>hb.block k hk⟩ uGx
theorem mV.alloc (h:mV B v l w) (o:Obj):mV B v l (w.alloc o):=h.later ((bB _ _).alloc (aA _) o)
theorem mV.reads (h:mV B v l w) (hl:∀n∈l,-9223372036854775808<=n/\n<=9223372036854775807):yP w v l:=by
 obtain⟨hr,_⟩:=h;have o9:=hr;obtain⟨h1,h2⟩:=hr;rcases h2 with⟨rfl,h2⟩|⟨g,cap,aj,fz,a1,a2,a3,a4,a5,a6,a7⟩
 ·exact Ag0
 ·exact Ac3
theorem mV.src (h:mV B v l w) (hn:l≠[]):∃ad c,v=.slice (some ad) l.length c/\∀j u,(iv l)[j]? =some u->w.cell? (ad.add j)=some u:=by
 exact Ae3
theorem mV.len (h:mV B v l w):∃a c,v=.slice a l.length c:=by
 exact Ah9
end
theorem vX:(Tryz.prog.info? 3).map (fun i=>(i.zero,i.size,i.bytes))=some (some (.int .i64 0),1,8):=by kernel_rfl
theorem aRJ {o:Oper} {a:Act} {K:Act->World->Prop} {Q:Exit->Act->World->Prop} {w:World} (s x:Operand)
  (ho:o.op=.call {callee:=.builtin .append,args:=#[s,x],argTypes:=#[112,112]})
  {B:Nat} {v:Value} {l:List Int} (hs:a.eval s=v) (hb:mV B v l w) (r:List Int) (ad:Addr) (c:Nat) (hx:a.eval x=.slice (some ad) r.length c)
  (hc:∀j u,(iv r)[j]? =some u->w.cell? (ad.add j)=some u) (an:l.length+r.length<=17592186044416)
  (h:∀v' w',mV B v' (l++r) w'->w.grownBy w' v.ownBlock->K (a.put o.dst v') w'):o.wp Tryz.prog a w K Q:=by
 obtain⟨i,hi,hz,h1,h2⟩:=dO vX;obtain⟨v',w',hr,g1,g2,_⟩:=uX (P:=Tryz.prog) w B 112 o.type 3 i (.int .i64 0) 1 8 Tryz.underlying112 hi hz h1 h2 rfl uAv v l.length (iv l) hb.1 ad r.length c (iv r) (by rw[aAv];omega) hc aP3
  uCx hO hb.2
 unfold Oper.wp execOp;simp only[ho,resolve,invoke,builtin,eG,eZ,cR,iE,cA,gY,hs,hx,hr];exact h v' w' ⟨by rw[aB,aTt];exact g1,aI hb.2 g2.size⟩ g2
theorem aHP {ops:Array Oper} {rest:List Oper} {o:Oper} {a:Act} {Q:Exit->Act->World->Prop} {w:World} (fj:o.guard=none) (s x:Operand)
  (ho:o.op=.call {callee:=.builtin .append,args:=#[s,x],argTypes:=#[112,112]})
  {B:Nat} {v:Value} {l:List Int} (hs:a.eval s=v) (hb:mV B v l w) (r:List Int) (ad:Addr) (c:Nat) (hx:a.eval x=.slice (some ad) r.length c)
  (hc:∀j u,(iv r)[j]? =some u->w.cell? (ad.add j)=some u) (an:l.length+r.length<=17592186044416)
  (h:∀v' w',mV B v' (l++r) w'->w.grownBy w' v.ownBlock->wpList Tryz.prog ops Q rest (a.put o.dst v') w'):wpList Tryz.prog ops Q (o::rest) a w:=
 gC fj fun _ hK=>aRJ s x ho hs hb r ad c hx hc an fun v' w' h1 h2=>hK _ _ (h v' w' h1 h2)
theorem aOv (w:World) (r:List Int) (cs:Array Value) (ep:cs=(iv r).toArray):∀j u,(iv r)[j]? =some u->(w.alloc (.cells cs 3)).cell? ((⟨w.heap.size,0,none⟩:Addr).add j)=some u:=by
 exact Ag3
theorem aBk {ops:Array Oper} {rest:List Oper} {o:Oper} {a:Act} {Q:Exit->Act->World->Prop} {w:World} (fj:o.guard=none) (s x:Operand)
  (ho:o.op=.call {callee:=.builtin .append,args:=#[s,x],argTypes:=#[112,112]})
  {B:Nat} {v:Value} {l:List Int} (hs:a.eval s=v) (hb:mV B v l w) (r:List Int) (cs:Array Value) (ep:cs=(iv r).toArray) (n c:Nat) (hn:n=r.length) (hx:a.eval x=.slice (some ⟨w.heap.size,0,none⟩) n c)
  (an:l.length+r.length<=17592186044416)
  (h:∀v' w',mV B v' (l++r) w'->w.grownBy w' v.ownBlock->wpList Tryz.prog ops Q rest (a.put o.dst v') w'):wpList Tryz.prog ops Q (o::rest) a (w.alloc (.cells cs 3)):=by
 subst hn;exact aHP fj s x ho hs (hb.alloc _) r ⟨w.heap.size,0,none⟩ c hx (aOv w r cs ep) an fun v' w' h1 h2=>h v' w' h1 ⟨h2.os,h2.tape,h2.output,by have:=h2.size;simp at this;omega,fun k hk bn=>(h2.block k uCy bn).trans (Lib.alloc_old w _ k hk)⟩
end Go.Proofs.YthmfgidbcghnfaaGreatDoor
namespace Go.Proofs.YthmfgidbcghnfaaGreatDoor
open Go.RowKit
def aK8 (a:Nat):Nat:=a*11400714819323198485 % 18446744073709551616
def aR5 (t:Nat):Nat:=t*2147483648 % 18446744073709551616|||t/8589934592
def aK9 (h x:Nat):Nat:=(aR5 (aK8 (h^^^x))+15485907386658061715) % 18446744073709551616
def xY (h:Nat):Nat:=h^^^h/4294967296
def aRX (h:Nat):Nat:=xY (xY h*15485907386658061715 % 18446744073709551616)
theorem aSK {a b:Nat} (ha:a<18446744073709551616) (hb:b<18446744073709551616):a^^^b<18446744073709551616:=Nat.xor_lt_two_pow (n:=64) ha hb
theorem or_lt {a b:Nat} (ha:a<18446744073709551616) (hb:b<18446744073709551616):a|||b<18446744073709551616:=Nat.or_lt_two_pow (n:=64) ha hb
theorem aGY (h x:Nat):aK9 h x<18446744073709551616:=tJ _ uAv
theorem aPm {h:Nat} (hh:h<18446744073709551616):xY h<18446744073709551616:=aSK hh (lN (qN _ _) hh)
theorem aKQ (h:Nat):aRX h<18446744073709551616:=aPm (tJ _ uAv)
theorem aQe (h k:Nat):h&&&(2^k-1)=h % 2^k:=Nat.and_two_pow_sub_one_eq_mod h k
def wd (l:List UInt8):Nat->Nat
 |0=>0
 |k+1=>wd l k|||(l.getD k 0).toNat*2^(8*(7-k))
def hs (nz:Nat) (l:List UInt8):Nat->Nat
 |0=>aK9 nz l.length
 |j+1=>aK9 (hs nz l j) (wd (l.drop (8*j)) (min (l.length-8*j) 8))
def aNC (nz:Nat) (l:List UInt8):Nat:=aRX (hs nz l ((l.length+7)/8))
theorem aGf (c:UInt8) (k:Nat) (_:k<=7):c.toNat*2^(8*(7-k))<18446744073709551616:=by
 have hc:c.toNat<256:=c.toNat_lt
 calc c.toNat*2^(8*(7-k))<256*2^(8*(7-k)):=Nat.mul_lt_mul_of_pos_right hc (nX _)
  _<=256*2^56:=Nat.mul_le_mul_left _ (uU uAv hO)
  _=18446744073709551616:=by decide
theorem aNo (l:List UInt8):∀k,k<=8->wd l k<18446744073709551616
 |0,_=>Nat.zero_lt_succ _
 |k+1,h=>or_lt (aNo l k hO) (aGf _ k hO)
theorem aSG (nz:Nat) (l:List UInt8):∀j,hs nz l j<18446744073709551616
 |0=>aGY _ _
 |_+1=>aGY _ _
def InR (n:Int):Prop:= -9223372036854775808<=n/\n<=9223372036854775807
instance(n:Int):Decidable (InR n):=inferInstanceAs (Decidable (_/\_))
def chk (n:Int):Int×Int:=if InR n then(n,0)else(0,4)
def aJ1 (a b:Int):Int×Int:=chk (a-b)
def aCx (a b:Int):Int×Int:=chk (a*b)
theorem yU (n:Int) (h:InR n):wrap64 n=n:=by unfold wrap64;unfold InR at h;omega
theorem aKJ (n:Int):InR (wrap64 n):=by unfold wrap64 InR;omega
theorem aPa (n:Int):InR (IntKind.i64.wrap n):=by rw[jM];unfold InR;omega
theorem sB {n:Int} (h:InR n):chk n=(n,0):=if_pos h
theorem oN {n:Int} (h:¬InR n):chk n=(0,4):=if_neg h
theorem aCO (v:BitVec 64):IntKind.i64.wrap (v.toNat:Int)=v.toInt:=by
 rw[jM,BitVec.toInt_eq_toNat_cond];have:=v.isLt;split<;>omega
theorem xC (x:Int) (h:InR x):(BitVec.ofInt 64 x).msb=decide (x<0):=by
 have e:(BitVec.ofInt 64 x).toInt=x:=by
  rw[BitVec.toInt_ofInt];unfold InR at h;rw[Int.bmod_def];simp only[Nat.reducePow];omega
 rw[BitVec.msb_eq_toInt,e]
theorem aKv (v:BitVec 64):(IntKind.i64.wrap (v.toNat:Int)<0)↔v.msb=true:=by
 rw[aCO,BitVec.msb_eq_toInt];simp
theorem aL7 (op:BinOp) (x y:Int):InR (bits op .i64 x y):=by
 unfold bits;simp only;exact aPa _
theorem aK4 (x y:Int) (hx:InR x) (hy:InR y):bits .xor .i64 x y<0↔(x<0/\0<=y\/0<=x/\y<0):=by
 show IntKind.i64.wrap (((BitVec.ofInt 64 x^^^BitVec.ofInt 64 y).toNat:Nat):Int)<0↔_;rw[aKv,BitVec.msb_xor,xC x hx,xC y hy];by_cases h1:x<0<;>by_cases h2:y<0<;>simp[h1,h2]<;>omega
theorem aSo (x y:Int) (hx:InR x) (hy:InR y):bits .and .i64 x y<0↔(x<0/\y<0):=by
 show IntKind.i64.wrap (((BitVec.ofInt 64 x&&&BitVec.ofInt 64 y).toNat:Nat):Int)<0↔_;rw[aKv,BitVec.msb_and,xC x hx,xC y hy];simp
theorem aNP (a b:Int) (ha:InR a) (hb:InR b):bits .and .i64 (bits .xor .i64 a b) (bits .xor .i64 a (wrap64 (a-b)))<0↔¬InR (a-b):=by
 rw[aSo _ _ (aL7 _ _ _) (aL7 _ _ _),aK4 _ _ ha hb,aK4 _ _ ha (aKJ _)];unfold InR at*
 unfold wrap64;omega
theorem aQN (x b:Int):(x.tdiv b).natAbs<=x.natAbs:=by
 rw[Int.natAbs_tdiv];exact qN _ _
theorem aQM (x b:Int) (hx:InR x) (hb:b≠0) (hn:¬(x= -9223372036854775808/\b= -1)):InR (x.tdiv b):=by
 have h:=aQN x b;unfold InR at*
 by_cases hm:x= -9223372036854775808
 ·subst hm
  by_cases h1:b=1
  ·subst h1;rw[Int.tdiv_one];omega
  ·have:(Int.tdiv (-9223372036854775808) b).natAbs<=4611686018427387904:=by
    rw[Int.natAbs_tdiv];have:2<=b.natAbs:=by omega
    calc(-9223372036854775808:Int).natAbs/b.natAbs<=(-9223372036854775808:Int).natAbs/2:=Nat.div_le_div_left this uAv
     _=4611686018427387904:=by decide
   omega
 ·omega
theorem aOw (a b:Int) (hb:b≠0):(a*b).tdiv b=a:=Int.mul_tdiv_cancel a hb
theorem aHA (a b:Int) (ha:InR a) (hb:InR b) (h0:b≠0) (hn:¬(a= -9223372036854775808/\b= -1)):
  wrap64 ((wrap64 (a*b)).tdiv b)=a↔InR (a*b):=by
 constructor
 ·intro h
  have hw:=aKJ (a*b);by_cases hm:wrap64 (a*b)= -9223372036854775808/\b= -1
  ·obtain⟨h1,rfl⟩:=hm
   rw[h1]at h;have:wrap64 ((-9223372036854775808:Int).tdiv (-1))= -9223372036854775808:=by decide+kernel
   rw[this]at h;exact absurd ⟨h.symm,rfl⟩ hn
  ·rw[yU _ (aQM _ b hw h0 hm)]at h
   have h3:=Int.mul_tdiv_add_tmod (wrap64 (a*b)) b;rw[h]at h3;have h4:((wrap64 (a*b)).tmod b).natAbs<b.natAbs:=by
    rw[Int.natAbs_tmod];exact tJ _ hO
   rw[Int.mul_comm]at h3;generalize(wrap64 (a*b)).tmod b=r at*
   generalize a*b=p at*
   unfold InR at*
   unfold wrap64 at*
   omega
 ·intro h
  rw[yU _ h,aOw a b h0,yU _ ha]
theorem aQR {a b:Int} (h:InR (a-b)):aJ1 a b=(wrap64 (a-b),0):=by rw[yU _ h];exact sB h
theorem aNQ {a b:Int} (h:¬InR (a-b)):aJ1 a b=(0,4):=oN h
theorem aRp {a b:Int} (h:InR (a*b)):aCx a b=(wrap64 (a*b),0):=by rw[yU _ h];exact sB h
theorem aOx {a b:Int} (h:¬InR (a*b)):aCx a b=(0,4):=oN h
def pm (a b:Int):Bool:=decide (a= -9223372036854775808/\b= -1)
theorem aMe (a:Int):aCx a 0=(0,0):=by unfold aCx;rw[Int.mul_zero];exact sB uFz
theorem aRo {a b:Int} (h:pm a b=true):aCx a b=(0,4):=by
 unfold pm at h;obtain⟨rfl,rfl⟩:=of_decide_eq_true h;exact oN uFz
theorem aOy {a b:Int} (ha:InR a) (hb:InR b) (h0:¬b=0) (hp:pm a b=false) (h:(wrap64 ((wrap64 (a*b)).tdiv b) !=a)=true):aCx a b=(0,4):=by
 refine aOx fun Bh=> ?_
 rw[(aHA a b ha hb h0 (of_decide_eq_false hp)).2 Bh]at h;simp at h
theorem aMf {a b:Int} (ha:InR a) (hb:InR b) (h0:¬b=0) (hp:pm a b=false) (h:(wrap64 ((wrap64 (a*b)).tdiv b) !=a)=false):aCx a b=(wrap64 (a*b),0):=
 aRp ((aHA a b ha hb h0 (of_decide_eq_false hp)).1 uDu)
theorem Below.chain {w w1 w2:World} (h1:Below w.heap.size w w1) (h2:Below w1.heap.size w1 w2):Below w.heap.size w w2:=h1.trans (h2.mono h1.size)
theorem Below.drawn (w:World):Below w.heap.size w w.drew:=⟨rfl,rfl,rfl,aA _,fun _ _=>rfl⟩
theorem Below.laid (w:World) (o:Obj):Below w.heap.size w (w.alloc o):=(bB _ _).alloc (aA _) o
def bt8 (v:Int):UInt8:=UInt8.ofNat (v % 256).toNat
theorem mU (v:Int):((bt8 v).toNat:Int)=v % 256:=by
 unfold bt8;have h0:=Int.emod_nonneg v (show(256:Int)≠0 by decide);have h1:=Int.emod_lt_of_pos v (show(0:Int)<256 by decide);exact Am1
theorem mk8 (w:World):(Instr.makeSlice 72 (.int .i64 8) (.int .i64 8)).run Tryz.prog w=.ok (.slice (some ⟨w.heap.size,0,none⟩) 8 8) (w.alloc (.cells #[.int .u8 0,.int .u8 0,.int .u8 0,.int .u8 0,.int .u8 0,.int .u8 0,.int .u8 0,.int .u8 0] 5)):=by kernel_rfl
theorem cv8 (w:World) (v0 v1 v2 v3 v4 v5 v6 v7:Int):(convert 72 9 (.slice (some ⟨w.heap.size,0,none⟩) 8 8)).run Tryz.prog (w.alloc (.cells #[.int .u8 (v0 % 256),.int .u8 (v1 % 256),.int .u8 (v2 % 256),.int .u8 (v3 % 256),.int .u8 (v4 % 256),.int .u8 (v5 % 256),.int .u8 (v6 % 256),.int .u8 (v7 % 256)] 5))=
  .ok (.string ⟨#[bt8 v0,bt8 v1,bt8 v2,bt8 v3,bt8 v4,bt8 v5,bt8 v6,bt8 v7]⟩) (w.alloc (.cells #[.int .u8 (v0 % 256),.int .u8 (v1 % 256),.int .u8 (v2 % 256),.int .u8 (v3 % 256),.int .u8 (v4 % 256),.int .u8 (v5 % 256),.int .u8 (v6 % 256),.int .u8 (v7 % 256)] 5)):=by
 refine rU (P:=Tryz.prog) (w.alloc _) 72 9 5 ⟨w.heap.size,0,none⟩ 8 [bt8 v0,bt8 v1,bt8 v2,bt8 v3,bt8 v4,bt8 v5,bt8 v6,bt8 v7] Tryz.underlying72 Tryz.underlying5 Tryz.underlying9 ?_;intro j hj;have Vw:j<8:=hj
 match j,Vw with
 |0,_=>simp[mU,Addr.add]
 |1,_=>simp[mU,Addr.add]
 |2,_=>simp[mU,Addr.add]
 |3,_=>simp[mU,Addr.add]
 |4,_=>simp[mU,Addr.add]
 |5,_=>simp[mU,Addr.add]
 |6,_=>simp[mU,Addr.add]
 |7,_=>simp[mU,Addr.add]
def wK (n:Int):List UInt8:=[bt8 ((n+9223372036854775808)/72057594037927936),bt8 ((n+9223372036854775808)/281474976710656),bt8 ((n+9223372036854775808)/1099511627776),bt8 ((n+9223372036854775808)/4294967296),bt8 ((n+9223372036854775808)/16777216),bt8 ((n+9223372036854775808)/65536),bt8 ((n+9223372036854775808)/256),bt8 (n+9223372036854775808)]
theorem aNn (n:Int) (h:InR n):IntKind.u64.wrap (IntKind.u64.wrap n+9223372036854775808)=n+9223372036854775808:=by
 rw[jL,jL];unfold InR at h;omega
theorem aMb (n:Int) (w:World) (hn:InR n):Calls Tryz.prog 142 #[.int .i64 n] w fun e w'=>e=.returned (.string ⟨(wK n).toArray⟩)/\Below w.heap.size w w':=by
 have rz:=mk8;have z8:=cv8;have hw:=eU (aNn n hn);have hb:Hid (∀o,Below w.heap.size w (w.alloc o)):=fun o=>(bB _ _).alloc (aA _) o
 go_enter Tryz.func142,Tryz.ntmps142;go_wp2_with fail
 go_rounds 9
 go_wp2_with fail
 go_ret;exact⟨by unfold wK;rw[<-hw.out];rfl,hb.out _⟩
theorem aFO (a b:Int) (w:World) (ha:InR a) (hb:InR b):Calls Tryz.prog 191 #[.int .i64 a,.int .i64 b] w fun e w'=>e=.returned (.tuple #[.int .i64 (aJ1 a b).1,.int .i64 (aJ1 a b).2])/\w=w':=by
 have ht:=aNP a b ha hb;have H:=eU ht;clear ht;go_enter Tryz.func191,Tryz.ntmps191;go_wp2
 ·go_ret2
  exact⟨by rw[aNQ (H.out.1 uCw)];rfl,rfl⟩
 ·go_ret2
  exact⟨by rw[aQR (Classical.not_not.1 fun h=>by have:=H.out.2 h;omega)];rfl,rfl⟩
theorem aFN (a b:Int) (w:World):Calls Tryz.prog 265 #[.int .i64 a,.int .i64 b] w fun e w'=>e=.returned (.bool (pm a b))/\w=w':=by
 by_cases h1:a= -9223372036854775808
 ·subst h1
  by_cases h2:b= -1
  ·subst h2
   go_enter Tryz.func265,Tryz.ntmps265;go_wp2
   go_ret;exact⟨rfl,rfl⟩
  ·have hp:pm (-9223372036854775808) b=false:=by simp[pm,h2]
   have H:=eU hp;clear hp;have hb:(b== -1)=false:=aE.2 h2;clear h2;go_enter Tryz.func265,Tryz.ntmps265;go_wp2
   go_ret;exact⟨by rw[H.out];rfl,rfl⟩
 ·have hp:pm a b=false:=by simp[pm,h1]
  have H:=eU hp;clear hp;have ha:(a== -9223372036854775808)=false:=aE.2 h1;clear h1;go_enter Tryz.func265,Tryz.ntmps265;go_wp2
  all_goals
   go_ret;exact⟨by rw[H.out];rfl,rfl⟩
theorem aFP (a b:Int) (w:World) (ha:InR a) (hb:InR b):Calls Tryz.prog 230 #[.int .i64 a,.int .i64 b] w fun e w'=>e=.returned (.tuple #[.int .i64 (aCx a b).1,.int .i64 (aCx a b).2])/\w=w':=by
 by_cases h0:b=0
 ·subst h0
  have H:=eU (aMe a);go_enter Tryz.func230,Tryz.ntmps230;go_wp2
  go_ret2;exact⟨by rw[H.out];rfl,rfl⟩
 ·have mf:(b==0)=false:=aE.2 h0
  go_enter Tryz.func230,Tryz.ntmps230;go_wp2_with (go_at_call 265;refine(aFN _ _ _).mono ?_;rintro e w' ⟨rfl,rfl⟩)
  ·go_ret2
   exact⟨by rw[aRo uCw];rfl,rfl⟩
  ·go_ret2
   exact⟨by rw[aOy ha hb h0 (oR.2 ‹_›) uCw];rfl,rfl⟩
  ·go_ret2
   exact⟨by rw[aMf ha hb h0 (oR.2 ‹_›) uCw];rfl,rfl⟩
def rR:List UInt8->List UInt8->Nat
 |a::l,b::r=>if a=b then rR l r+1 else 0
 |_,_=>0
def jA (a b:List UInt8):Int:=if a=b then 0 else if a<b then-1 else 1
def hxD (n:Nat):UInt8:=if n<10 then UInt8.ofNat (48+n)else UInt8.ofNat (87+n)
def kI (c:UInt8):List UInt8:=
 if c.toNat=34\/c.toNat=92 then[92,c]else if c.toNat=10 then[92,110]else if c.toNat=9 then[92,116]else if c.toNat=13 then[92,114]
 else if c.toNat<32\/126<c.toNat then[92,120,hxD (c.toNat/16),hxD (c.toNat % 16)]else[c]
def gI (l:List UInt8):List UInt8:=34::(l.flatMap kI++[34])
def hval (c:UInt8) (Pf:Bool):Nat:=
 if 48<=c.toNat/\c.toNat<=57 then c.toNat-48 else if 97<=c.toNat/\c.toNat<=102 then c.toNat-87 else if Pf=true/\65<=c.toNat/\c.toNat<=70 then c.toNat-55 else 16
def uC (c:UInt8):Option UInt8:=
 if c.toNat=34\/c.toNat=92\/c.toNat=47 then some c else if c.toNat=110 then some 10 else if c.toNat=116 then some 9 else if c.toNat=114 then some 13 else none
def iV:List UInt8->Nat->List UInt8->List UInt8×Nat×Int
 |[],at_,_=>([],at_,10)
 |c::r,at_,out=>
  if c.toNat=34 then(out,at_+1,0)
  else if c.toNat<32 then([],at_,2)
  else if c.toNat≠92 then iV r (at_+1) (out++[c])
  else match r with
   |[]=>([],at_+1,10)
   |d::r=>
    if d.toNat≠120 then(match uC d with
     |none=>([],at_+1,2)
     |some x=>iV r (at_+2) (out++[x]))
    else match r with
     |[]=>([],at_+2,10)
     |h1::r=>if 15<hval h1 true then([],at_+2,2)else match r with
      |[]=>([],at_+3,10)
      |h2::r=>if 15<hval h2 true then([],at_+3,2)else iV r (at_+4) (out++[UInt8.ofNat (16*hval h1 true+hval h2 true)])
def cF (l:List UInt8):List UInt8×Nat×Int:=
 match l with
 |[]=>([],0,10)
 |c::r=>if c.toNat≠34 then([],0,2)else iV r 1 []
def uW (c:UInt8):Bool:=decide (97<=c.toNat/\c.toNat<=122\/65<=c.toNat/\c.toNat<=90\/c.toNat=95)
def iM (c:UInt8):Bool:=decide (48<=c.toNat/\c.toNat<=57)
def aCw (l:List UInt8):Bool:=match l with|[]=>false|c::r=>uW c&&r.all fun c=>uW c||iM c
end Go.Proofs.YthmfgidbcghnfaaGreatDoor
namespace Go.Proofs
open Go.Shelf
def Tryz.lays169_ren:Go.Shelf.Ren:=⟨fun|169=>43|n=>n,fun|70=>80|9=>9|0=>0|72=>82|37=>72|127=>148|3=>3|5=>5|n=>n,fun|n=>n⟩
theorem Tryz.lays169:Go.Proofs.Lays.n169 Tryz.prog Tryz.lays169_ren:={
 mixed:=by kernel_rfl
 f169:=Tryz.func43.trans (aU some uAu)
 t0:=Tryz.underlying0
 a0:=Tryz.isAgg0
 z0:=Tryz.sizeOf0
 v0:=Tryz.zeroValue0
 t3:=Tryz.underlying3
 a3:=Tryz.isAgg3
 z3:=Tryz.sizeOf3
 v3:=Tryz.zeroValue3
 t9:=Tryz.underlying9
 a9:=Tryz.isAgg9
 z9:=Tryz.sizeOf9
 v9:=Tryz.zeroValue9
 t37:=Tryz.underlying72
 a37:=Tryz.isAgg72
 z37:=Tryz.sizeOf72
 v37:=Tryz.zeroValue72
 t70:=Tryz.underlying80
 a70:=Tryz.isAgg80
 z70:=Tryz.sizeOf80
 v70:=Tryz.zeroValue80
 t72:=Tryz.underlying82
 a72:=Tryz.isAgg82
 z72:=Tryz.sizeOf82
 v72:=Tryz.zeroValue82
 t127:=Tryz.underlying148
 a127:=Tryz.isAgg148
 z127:=Tryz.sizeOf148
 v127:=Tryz.zeroValue148}
theorem Tryz.Builder_Extra_169:Builder.Extra Tryz.prog Tryz.lays169_ren:={
 sizeBuilder:=by kernel_rfl
 liesBuilder:=by kernel_rfl
 t5:=Tryz.underlying5
 a5:=Tryz.isAgg5
 z5:=Tryz.sizeOf5
 v5:=Tryz.zeroValue5
 infoByte:=by kernel_rfl
 cellsByte:=by kernel_rfl
 sizeByte:=by kernel_rfl
 neB5:=by decide}
def Tryz.lays106_ren:Go.Shelf.Ren:=⟨fun|106=>194|213=>241|265=>269|n=>n,fun|9=>9|3=>3|n=>n,fun|n=>n⟩
theorem Tryz.lays106:Go.Proofs.Lays.n106 Tryz.prog Tryz.lays106_ren:={
 mixed:=by kernel_rfl
 f106:=Tryz.func194.trans (aU some uAu)
 f213:=Tryz.func241.trans (aU some uAu)
 f265:=Tryz.func269.trans (aU some uAu)
 t3:=Tryz.underlying3
 a3:=Tryz.isAgg3
 z3:=Tryz.sizeOf3
 v3:=Tryz.zeroValue3
 t9:=Tryz.underlying9
 a9:=Tryz.isAgg9
 z9:=Tryz.sizeOf9
 v9:=Tryz.zeroValue9}
open Go.RowKit in
theorem Tryz.strings_Compare (a b:ByteArray) (w:World):
  Calls Tryz.prog 194 #[.string a,.string b] w fun e w'=>e=.returned (.int .i64 (Lib.compareBytes a.data.toList b.data.toList))/\w'=w:=Any.strings_Compare Tryz.lays106 a b w
def Tryz.lays137_ren:Go.Shelf.Ren:=⟨fun|137=>264|217=>278|266=>281|n=>n,fun|9=>9|5=>5|3=>3|n=>n,fun|n=>n⟩
theorem Tryz.lays137:Go.Proofs.Lays.n137 Tryz.prog Tryz.lays137_ren:={
 mixed:=by kernel_rfl
 f137:=Tryz.func264.trans (aU some uAu)
 f217:=Tryz.func278.trans (aU some uAu)
 f266:=Tryz.func281.trans (aU some uAu)
 t3:=Tryz.underlying3
 a3:=Tryz.isAgg3
 z3:=Tryz.sizeOf3
 v3:=Tryz.zeroValue3
 t5:=Tryz.underlying5
 a5:=Tryz.isAgg5
 z5:=Tryz.sizeOf5
 v5:=Tryz.zeroValue5
 t9:=Tryz.underlying9
 a9:=Tryz.isAgg9
 z9:=Tryz.sizeOf9
 v9:=Tryz.zeroValue9}
open Go.RowKit in
theorem Tryz.strings_IndexByte (s:ByteArray) (c:Int) (w:World):
  Calls Tryz.prog 264 #[.string s,.int .u8 c] w fun e w'=>e=.returned (.int .i64 (Lib.indexByte s.data.toList c.toNat.toUInt8))/\w'=w:=Any.strings_IndexByte Tryz.lays137 s c w
open Go.RowKit in
theorem Tryz.Builder_String_any_k (B b:Nat) (l:List UInt8) (w:World) (h:Lib.IsBuilderF 82 5 B b (Lib.byteCells l) w) (Gd:B<=w.heap.size):
  Calls Tryz.prog 43 #[.pointer (some ⟨b,0,none⟩)] w fun e w'=>e=.returned (.string ⟨l.toArray⟩)/\(Lib.IsBuilderF 82 5 B b (Lib.byteCells l) w'/\Below B w w'/\Lib.OthersKept 5 (some b) w w'):=Any.Builder_String_any_k Tryz.lays169 Tryz.Builder_Extra_169 B b l w h Gd
def Tryz.laysM173_ren:Go.Shelf.Ren:=⟨fun|173=>116|246=>156|283=>184|284=>185|285=>186|286=>187|129=>211|317=>224|318=>225|319=>226|320=>227|337=>232|338=>263|n=>n,fun|2=>2|3=>3|9=>9|4=>4|171=>266|0=>0|53=>22|37=>72|5=>5|173=>269|212=>310|51=>128|20=>20|213=>311|46=>240|232=>336|233=>345|n=>n,fun|17=>3|18=>4|19=>6|n=>n⟩
theorem Tryz.laysM173:Go.Proofs.LaysM.n173 Tryz.prog Tryz.laysM173_ren:={
 mixed:=by kernel_rfl
 f129:=Tryz.func211.trans (aU some uAu)
 f173:=Tryz.func116.trans (aU some uAu)
 f246:=Tryz.func156.trans (aU some uAu)
 f283:=Tryz.func184.trans (aU some uAu)
 f284:=Tryz.func185.trans (aU some uAu)
 f285:=Tryz.func186.trans (aU some uAu)
 f286:=Tryz.func187.trans (aU some uAu)
 f317:=Tryz.func224.trans (aU some uAu)
 f318:=Tryz.func225.trans (aU some uAu)
 f319:=Tryz.func226.trans (aU some uAu)
 f320:=Tryz.func227.trans (aU some uAu)
 f337:=Tryz.func232.trans (aU some uAu)
 f338:=Tryz.func263.trans (aU some uAu)
 t0:=Tryz.underlying0
 a0:=Tryz.isAgg0
 z0:=Tryz.sizeOf0
 v0:=Tryz.zeroValue0
 t2:=Tryz.underlying2
 a2:=Tryz.isAgg2
 z2:=Tryz.sizeOf2
 v2:=Tryz.zeroValue2
 t3:=Tryz.underlying3
 a3:=Tryz.isAgg3
 z3:=Tryz.sizeOf3
 v3:=Tryz.zeroValue3
 t4:=Tryz.underlying4
 a4:=Tryz.isAgg4
 z4:=Tryz.sizeOf4
 v4:=Tryz.zeroValue4
 t5:=Tryz.underlying5
 a5:=Tryz.isAgg5
 z5:=Tryz.sizeOf5
 v5:=Tryz.zeroValue5
 t9:=Tryz.underlying9
 a9:=Tryz.isAgg9
 z9:=Tryz.sizeOf9
 v9:=Tryz.zeroValue9
 t20:=Tryz.underlying20
 a20:=Tryz.isAgg20
 z20:=Tryz.sizeOf20
 v20:=Tryz.zeroValue20
 t37:=Tryz.underlying72
 a37:=Tryz.isAgg72
 z37:=Tryz.sizeOf72
 v37:=Tryz.zeroValue72
 t46:=Tryz.underlying240
 a46:=Tryz.isAgg240
 z46:=Tryz.sizeOf240
 v46:=Tryz.zeroValue240
 t51:=Tryz.underlying128
 a51:=Tryz.isAgg128
 z51:=Tryz.sizeOf128
 v51:=Tryz.zeroValue128
 t53:=Tryz.underlying22
 a53:=Tryz.isAgg22
 z53:=Tryz.sizeOf22
 v53:=Tryz.zeroValue22
 t171:=Tryz.underlying266
 a171:=Tryz.isAgg266
 z171:=Tryz.sizeOf266
 v171:=Tryz.zeroValue266
 t173:=Tryz.underlying269
 a173:=Tryz.isAgg269
 z173:=Tryz.sizeOf269
 v173:=Tryz.zeroValue269
 t212:=Tryz.underlying310
 a212:=Tryz.isAgg310
 z212:=Tryz.sizeOf310
 v212:=Tryz.zeroValue310
 t213:=Tryz.underlying311
 a213:=Tryz.isAgg311
 z213:=Tryz.sizeOf311
 t232:=Tryz.underlying336
 a232:=Tryz.isAgg336
 z232:=Tryz.sizeOf336
 v232:=Tryz.zeroValue336
 t233:=Tryz.underlying345
 a233:=Tryz.isAgg345
 z233:=Tryz.sizeOf345
 v233:=Tryz.zeroValue345
 g17:=by kernel_rfl
 g18:=by kernel_rfl
 g19:=by kernel_rfl
 i0:=by kernel_rfl
 i2:=by kernel_rfl
 i3:=by kernel_rfl
 i4:=by kernel_rfl
 i5:=by kernel_rfl
 i9:=by kernel_rfl
 i20:=by kernel_rfl
 i37:=by kernel_rfl
 i46:=by kernel_rfl
 i51:=by kernel_rfl
 i53:=by kernel_rfl
 i171:=by kernel_rfl
 i173:=by kernel_rfl
 i212:=by kernel_rfl
 i232:=by kernel_rfl
 i233:=by kernel_rfl
 m17:=by kernel_rfl
 m18:=by kernel_rfl
 m19:=by kernel_rfl}
def Tryz.laysM316_ren:Go.Shelf.Ren:=⟨fun|316=>162|n=>n,fun|9=>9|3=>3|4=>4|37=>72|0=>0|127=>148|5=>5|n=>n,fun|n=>n⟩
theorem Tryz.laysM316:Go.Proofs.LaysM.n316 Tryz.prog Tryz.laysM316_ren:={
 mixed:=by kernel_rfl
 f316:=Tryz.func162.trans (aU some uAu)
 t0:=Tryz.underlying0
 a0:=Tryz.isAgg0
 z0:=Tryz.sizeOf0
 v0:=Tryz.zeroValue0
 t3:=Tryz.underlying3
 a3:=Tryz.isAgg3
 z3:=Tryz.sizeOf3
 v3:=Tryz.zeroValue3
 t4:=Tryz.underlying4
 a4:=Tryz.isAgg4
 z4:=Tryz.sizeOf4
 v4:=Tryz.zeroValue4
 t9:=Tryz.underlying9
 a9:=Tryz.isAgg9
 z9:=Tryz.sizeOf9
 v9:=Tryz.zeroValue9
 t37:=Tryz.underlying72
 a37:=Tryz.isAgg72
 z37:=Tryz.sizeOf72
 v37:=Tryz.zeroValue72
 t127:=Tryz.underlying148
 a127:=Tryz.isAgg148
 z127:=Tryz.sizeOf148
 v127:=Tryz.zeroValue148
 t5:=Tryz.underlying5
 a5:=Tryz.isAgg5
 z5:=Tryz.sizeOf5
 v5:=Tryz.zeroValue5
 i0:=by kernel_rfl
 i3:=by kernel_rfl
 i4:=by kernel_rfl
 i5:=by kernel_rfl
 i9:=by kernel_rfl
 i37:=by kernel_rfl
 i127:=by kernel_rfl}
open Go.RowKit in
theorem Tryz.stringslite_Clone (s:ByteArray) (w:World) (Vx:s.size<=281474976710656):
  Calls Tryz.prog 162 #[.string s] w fun e w'=>e=.returned (.string s)/\Below w.heap.size w w':=Any.stringslite_Clone Tryz.laysM316 s w Vx
def Tryz.lays190_ren:Go.Shelf.Ren:=⟨fun|190=>149|125=>173|258=>172|128=>210|129=>211|302=>201|303=>202|304=>203|305=>204|306=>205|307=>206|308=>207|309=>208|310=>209|333=>250|329=>251|330=>252|334=>253|335=>254|336=>255|344=>275|n=>n,fun|31=>25|9=>9|3=>3|46=>240|0=>0|51=>128|53=>22|4=>4|183=>288|182=>287|131=>63|5=>5|218=>324|222=>328|228=>342|229=>302|n=>n,fun|n=>n⟩
theorem Tryz.lays190:Go.Proofs.Lays.n190 Tryz.prog Tryz.lays190_ren:={
 mixed:=by kernel_rfl
 f125:=Tryz.func173.trans (aU some uAu)
 f128:=Tryz.func210.trans (aU some uAu)
 f129:=Tryz.func211.trans (aU some uAu)
 f190:=Tryz.func149.trans (aU some uAu)
 f258:=Tryz.func172.trans (aU some uAu)
 f302:=Tryz.func201.trans (aU some uAu)
 f303:=Tryz.func202.trans (aU some uAu)
 f304:=Tryz.func203.trans (aU some uAu)
 f305:=Tryz.func204.trans (aU some uAu)
 f306:=Tryz.func205.trans (aU some uAu)
 f307:=Tryz.func206.trans (aU some uAu)
 f308:=Tryz.func207.trans (aU some uAu)
 f309:=Tryz.func208.trans (aU some uAu)
 f310:=Tryz.func209.trans (aU some uAu)
 f329:=Tryz.func251.trans (aU some uAu)
 f330:=Tryz.func252.trans (aU some uAu)
 f333:=Tryz.func250.trans (aU some uAu)
 f334:=Tryz.func253.trans (aU some uAu)
 f335:=Tryz.func254.trans (aU some uAu)
 f336:=Tryz.func255.trans (aU some uAu)
 f344:=Tryz.func275.trans (aU some uAu)
 t0:=Tryz.underlying0
 a0:=Tryz.isAgg0
 z0:=Tryz.sizeOf0
 v0:=Tryz.zeroValue0
 t3:=Tryz.underlying3
 a3:=Tryz.isAgg3
 z3:=Tryz.sizeOf3
 v3:=Tryz.zeroValue3
 t4:=Tryz.underlying4
 a4:=Tryz.isAgg4
 z4:=Tryz.sizeOf4
 v4:=Tryz.zeroValue4
 t5:=Tryz.underlying5
 a5:=Tryz.isAgg5
 z5:=Tryz.sizeOf5
 v5:=Tryz.zeroValue5
 t9:=Tryz.underlying9
 a9:=Tryz.isAgg9
 z9:=Tryz.sizeOf9
 v9:=Tryz.zeroValue9
 t31:=Tryz.underlying25
 a31:=Tryz.isAgg25
 z31:=Tryz.sizeOf25
 v31:=Tryz.zeroValue25
 t46:=Tryz.underlying240
 a46:=Tryz.isAgg240
 z46:=Tryz.sizeOf240
 v46:=Tryz.zeroValue240
 t51:=Tryz.underlying128
 a51:=Tryz.isAgg128
 z51:=Tryz.sizeOf128
 v51:=Tryz.zeroValue128
 t53:=Tryz.underlying22
 a53:=Tryz.isAgg22
 z53:=Tryz.sizeOf22
 v53:=Tryz.zeroValue22
 t131:=Tryz.underlying63
 a131:=Tryz.isAgg63
 z131:=Tryz.sizeOf63
 v131:=Tryz.zeroValue63
 t182:=Tryz.underlying287
 a182:=Tryz.isAgg287
 z182:=Tryz.sizeOf287
 v182:=Tryz.zeroValue287
 t183:=Tryz.underlying288
 a183:=Tryz.isAgg288
 z183:=Tryz.sizeOf288
 v183:=Tryz.zeroValue288
 t218:=Tryz.underlying324
 a218:=Tryz.isAgg324
 z218:=Tryz.sizeOf324
 v218:=Tryz.zeroValue324
 t222:=Tryz.underlying328
 a222:=Tryz.isAgg328
 z222:=Tryz.sizeOf328
 v222:=Tryz.zeroValue328
 t228:=Tryz.underlying342
 a228:=Tryz.isAgg342
 z228:=Tryz.sizeOf342
 v228:=Tryz.zeroValue342
 t229:=Tryz.underlying302
 a229:=Tryz.isAgg302
 z229:=Tryz.sizeOf302
 v229:=Tryz.zeroValue302}
open Go.Sort Go.RowKit in
theorem Tryz.slices_Sort_string (p9 off cap:Nat) (ss:List (List UInt8)) (w:World) (hH:Holds encStr w p9 off ss.toArray) (Pg:p9<w.heap.size) (de:ss.length<4611686018427387904):
  Calls Tryz.prog 149 #[.slice (some ⟨p9,off,none⟩) ss.length cap] w fun e w'=>
   e=.returned (.tuple #[])/\∃n os,w'=grow (putRow encStr (Sort.ahead w n) p9 off (ss.mergeSort fun x y=>decide (x<=y)).toArray) os:=Any.slices_Sort_string Tryz.lays190 p9 off cap ss w hH Pg de
def Tryz.laysNm216_ren:Go.Shelf.Ren:=⟨fun|16=>148|n=>n,fun|24=>25|9=>9|4=>4|n=>n,fun|n=>n⟩
theorem Tryz.laysNm216:Go.Proofs.Lays2.n16 Tryz.prog Tryz.laysNm216_ren:={
 mixed:=by kernel_rfl
 f16:=Tryz.func148.trans (aU some uAu)
 t4:=Tryz.underlying4
 a4:=Tryz.isAgg4
 z4:=Tryz.sizeOf4
 v4:=Tryz.zeroValue4
 t9:=Tryz.underlying9
 a9:=Tryz.isAgg9
 z9:=Tryz.sizeOf9
 v9:=Tryz.zeroValue9
 t24:=Tryz.underlying25
 a24:=Tryz.isAgg25
 z24:=Tryz.sizeOf25
 v24:=Tryz.zeroValue25
 i9:=by kernel_rfl}
open Go.RowKit Go.Lib in
theorem Tryz.slices_Clone_string (b off n c:Nat) (zs:List ByteArray) (w:World) (hz:n<=zs.length) (Vy:n*16<=140737488355328) (hc:∀j,j<zs.length->w.cell? ⟨b,off+j,none⟩=some (.string (zs.getD j ByteArray.empty))):
  Calls Tryz.prog 148 #[.slice (some ⟨b,off,none⟩) n c] w fun e w'=>∃v',e=.returned v'/\w'.ownsRow w.heap.size 9 1 v' n ((zs.take n).map (Value.string))/\v'≠.slice none 0 0/\Below w.heap.size w w':=Any.slices_Clone_string Tryz.laysNm216 b off n c zs w hz Vy hc
open Go.RowKit Go.Lib in
theorem Tryz.slices_Clone_string_nil (n c:Nat) (w:World):
  Calls Tryz.prog 148 #[.slice none n c] w fun e w'=>e=.returned (.slice none 0 0)/\w'=w:=Any.slices_Clone_string_nil Tryz.laysNm216 n c w
open Go.RowKit Go.Lib in
theorem Tryz.slices_Clone_string_zero (a:Addr) (c:Nat) (w:World):
  Calls Tryz.prog 148 #[.slice (some a) 0 c] w fun e w'=>∃v',e=.returned v'/\w'.ownsRow w.heap.size 9 1 v' 0 []/\v'≠.slice none 0 0/\Below w.heap.size w w':=Any.slices_Clone_string_zero Tryz.laysNm216 a c w
def Tryz.lays194_ren:Go.Shelf.Ren:=⟨fun|194=>150|n=>n,fun|31=>25|9=>9|3=>3|4=>4|0=>0|n=>n,fun|n=>n⟩
theorem Tryz.lays194:Go.Proofs.Lays.n194 Tryz.prog Tryz.lays194_ren:={
 mixed:=by kernel_rfl
 f194:=Tryz.func150.trans (aU some uAu)
 t0:=Tryz.underlying0
 a0:=Tryz.isAgg0
 z0:=Tryz.sizeOf0
 v0:=Tryz.zeroValue0
 t3:=Tryz.underlying3
 a3:=Tryz.isAgg3
 z3:=Tryz.sizeOf3
 v3:=Tryz.zeroValue3
 t4:=Tryz.underlying4
 a4:=Tryz.isAgg4
 z4:=Tryz.sizeOf4
 v4:=Tryz.zeroValue4
 t9:=Tryz.underlying9
 a9:=Tryz.isAgg9
 z9:=Tryz.sizeOf9
 v9:=Tryz.zeroValue9
 t31:=Tryz.underlying25
 a31:=Tryz.isAgg25
 z31:=Tryz.sizeOf25
 v31:=Tryz.zeroValue25}
open Go.RowKit Go.Lib Go.Sort in
theorem Tryz.slices_Compact_string (p9 off cap:Nat) (zs:List (List UInt8)) (w:World) (hH:Holds encStr w p9 off zs.toArray) (de:zs.length<=9223372036854775807) (jq:zs.length<=cap):
  Calls Tryz.prog 150 #[.slice (some ⟨p9,off,none⟩) zs.length cap] w fun e w'=>e=.returned (.slice (some ⟨p9,off,none⟩) (Lib.compact zs).length cap)/\∃q,w'=putRow encStr (Sort.ahead w q) p9 off (Lib.compact zs++List.replicate (zs.length-(Lib.compact zs).length) []).toArray:=Any.slices_Compact_string Tryz.lays194 p9 off cap zs w hH de jq
open Go.RowKit Go.Lib Go.Sort in
theorem Tryz.slices_Compact_string_empty (a:Option Addr) (cap:Nat) (w:World):
  Calls Tryz.prog 150 #[.slice a 0 cap] w fun e w'=>e=.returned (.slice a 0 cap)/\w'=w:=Any.slices_Compact_string_empty Tryz.lays194 a cap w
open Go.RowKit Go.Sort in
theorem Tryz.slices_Sort_string_none (p:Option Addr) (cap:Nat) (w:World):
  Calls Tryz.prog 149 #[.slice p 0 cap] w fun e w'=>e=.returned (.tuple #[])/\w'=w:=Any.slices_Sort_string_none Tryz.lays190 p cap w
def Tryz.sortL_ren:Go.Shelf.Ren:=⟨fun|6=>166|15=>173|14=>193|28=>210|29=>211|20=>233|21=>234|22=>235|23=>236|24=>237|25=>238|26=>239|27=>240|46=>266|47=>251|48=>252|49=>267|50=>268|57=>279|n=>n,fun|22=>132|24=>211|25=>246|3=>3|39=>240|0=>0|53=>128|55=>22|4=>4|46=>288|45=>287|50=>63|5=>5|9=>9|66=>324|70=>328|76=>342|77=>302|n=>n,fun|n=>n⟩
theorem Tryz.sortL:Go.Proofs.SlLaysF.n6 Tryz.prog Tryz.sortL_ren:={
 mixed:=by kernel_rfl
 f6:=⟨Tryz.f166.name,by decide,Tryz.func166.trans (aU some uAu)⟩
 f14:=⟨Tryz.f193.name,by decide,Tryz.func193.trans (aU some uAu)⟩
 f15:=Tryz.func173.trans (aU some uAu)
 f20:=⟨Tryz.f233.name,by decide,Tryz.func233.trans (aU some uAu)⟩
 f21:=⟨Tryz.f234.name,by decide,Tryz.func234.trans (aU some uAu)⟩
 f22:=⟨Tryz.f235.name,by decide,Tryz.func235.trans (aU some uAu)⟩
 f23:=⟨Tryz.f236.name,by decide,Tryz.func236.trans (aU some uAu)⟩
 f24:=⟨Tryz.f237.name,by decide,Tryz.func237.trans (aU some uAu)⟩
 f25:=⟨Tryz.f238.name,by decide,Tryz.func238.trans (aU some uAu)⟩
 f26:=⟨Tryz.f239.name,by decide,Tryz.func239.trans (aU some uAu)⟩
 f27:=⟨Tryz.f240.name,by decide,Tryz.func240.trans (aU some uAu)⟩
 f28:=Tryz.func210.trans (aU some uAu)
 f29:=Tryz.func211.trans (aU some uAu)
 f46:=⟨Tryz.f266.name,by decide,Tryz.func266.trans (aU some uAu)⟩
 f47:=Tryz.func251.trans (aU some uAu)
 f48:=Tryz.func252.trans (aU some uAu)
 f49:=⟨Tryz.f267.name,by decide,Tryz.func267.trans (aU some uAu)⟩
 f50:=⟨Tryz.f268.name,by decide,Tryz.func268.trans (aU some uAu)⟩
 f57:=⟨Tryz.f279.name,by decide,Tryz.func279.trans (aU some uAu)⟩
 t0:=Tryz.underlying0
 a0:=Tryz.isAgg0
 z0:=Tryz.sizeOf0
 v0:=Tryz.zeroValue0
 t3:=Tryz.underlying3
 a3:=Tryz.isAgg3
 z3:=Tryz.sizeOf3
 v3:=Tryz.zeroValue3
 t4:=Tryz.underlying4
 a4:=Tryz.isAgg4
 z4:=Tryz.sizeOf4
 v4:=Tryz.zeroValue4
 t5:=Tryz.underlying5
 a5:=Tryz.isAgg5
 z5:=Tryz.sizeOf5
 v5:=Tryz.zeroValue5
 t9:=Tryz.underlying9
 a9:=Tryz.isAgg9
 z9:=Tryz.sizeOf9
 v9:=Tryz.zeroValue9
 t22:=Tryz.underlying132
 a22:=Tryz.isAgg132
 z22:=Tryz.sizeOf132
 v22:=Tryz.zeroValue132
 a24:=Tryz.isAgg211
 z24:=Tryz.sizeOf211
 t25:=Tryz.underlying246
 a25:=Tryz.isAgg246
 z25:=Tryz.sizeOf246
 v25:=Tryz.zeroValue246
 t39:=Tryz.underlying240
 a39:=Tryz.isAgg240
 z39:=Tryz.sizeOf240
 v39:=Tryz.zeroValue240
 t45:=Tryz.underlying287
 a45:=Tryz.isAgg287
 z45:=Tryz.sizeOf287
 v45:=Tryz.zeroValue287
 t46:=Tryz.underlying288
 a46:=Tryz.isAgg288
 z46:=Tryz.sizeOf288
 v46:=Tryz.zeroValue288
 t50:=Tryz.underlying63
 a50:=Tryz.isAgg63
 z50:=Tryz.sizeOf63
 v50:=Tryz.zeroValue63
 t53:=Tryz.underlying128
 a53:=Tryz.isAgg128
 z53:=Tryz.sizeOf128
 v53:=Tryz.zeroValue128
 t55:=Tryz.underlying22
 a55:=Tryz.isAgg22
 z55:=Tryz.sizeOf22
 v55:=Tryz.zeroValue22
 t66:=Tryz.underlying324
 a66:=Tryz.isAgg324
 z66:=Tryz.sizeOf324
 v66:=Tryz.zeroValue324
 t70:=Tryz.underlying328
 a70:=Tryz.isAgg328
 z70:=Tryz.sizeOf328
 v70:=Tryz.zeroValue328
 t76:=Tryz.underlying342
 a76:=Tryz.isAgg342
 z76:=Tryz.sizeOf342
 v76:=Tryz.zeroValue342
 t77:=Tryz.underlying302
 a77:=Tryz.isAgg302
 z77:=Tryz.sizeOf302
 v77:=Tryz.zeroValue302}
end Go.Proofs
