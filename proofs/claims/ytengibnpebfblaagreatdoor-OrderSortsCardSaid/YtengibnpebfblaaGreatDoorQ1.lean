import Derived.Test.YtengibnpebfblaaGreatDoorQ0
set_option maxRecDepth 1000000
set_option maxHeartbeats 8000000
namespace Go.Proofs.YtengibnpebfblaaGreatDoor
open Go.RowKit
structure Cel where
 k:Int
 n:Int
 t:ByteArray
 p:Option Addr
def gT:Cel:=⟨0,0,⟨#[]⟩,none⟩
abbrev aX (x:Cel):Array Value:=#[.int .i64 x.k,.int .i64 x.n,.string x.t,.pointer x.p]
def enV (x:Cel):List Value:=[.int .i64 x.k,.int .i64 x.n,.string x.t,.pointer x.p]
theorem vT (x:Cel):(enV x).length=4:=rfl
theorem aN1 (x:Cel):∀u∈enV x,u.oneCell'=true:=by
 intro u hu;simp only[enV,bA,gX,wV]at hu;rcases hu with rfl|rfl|rfl|rfl<;>rfl
theorem eU (x:Cel):(aX x).all (·.oneCell')=true:=by simp[Value.oneCell']
def aCN (a:Nat):Nat:=a*11400714819323198485 % 18446744073709551616
def aKm (t:Nat):Nat:=t*2147483648 % 18446744073709551616|||t/8589934592
def aBd (h x:Nat):Nat:=(aKm (aCN (h^^^x))+15485907386658061715) % 18446744073709551616
def qI (h:Nat):Nat:=h^^^h/4294967296
def aFX (h:Nat):Nat:=qI (qI h*15485907386658061715 % 18446744073709551616)
theorem aNt {a b:Nat} (ha:a<18446744073709551616) (hb:b<18446744073709551616):a^^^b<18446744073709551616:=Nat.xor_lt_two_pow (n:=64) ha hb
theorem or_lt {a b:Nat} (ha:a<18446744073709551616) (hb:b<18446744073709551616):a|||b<18446744073709551616:=Nat.or_lt_two_pow (n:=64) ha hb
theorem aF2 (h x:Nat):aBd h x<18446744073709551616:=mP _ uAv
theorem aLr {h:Nat} (hh:h<18446744073709551616):qI h<18446744073709551616:=aNt hh (jD (uF _ _) hh)
theorem aHX (h:Nat):aFX h<18446744073709551616:=aLr (mP _ uAv)
theorem aLP (h k:Nat):h&&&(2^k-1)=h % 2^k:=Nat.and_two_pow_sub_one_eq_mod h k
def wd (l:List UInt8):Nat->Nat
 |0=>0
 |k+1=>wd l k|||(l.getD k 0).toNat*2^(8*(7-k))
def hs (seed:Nat) (l:List UInt8):Nat->Nat
 |0=>aBd seed l.length
 |j+1=>aBd (hs seed l j) (wd (l.drop (8*j)) (min (l.length-8*j) 8))
def aAJ (seed:Nat) (l:List UInt8):Nat:=aFX (hs seed l ((l.length+7)/8))
theorem aEt (c:UInt8) (k:Nat) (_:k<=7):c.toNat*2^(8*(7-k))<18446744073709551616:=by
 have hc:c.toNat<256:=c.toNat_lt
 calc c.toNat*2^(8*(7-k))<256*2^(8*(7-k)):=Nat.mul_lt_mul_of_pos_right hc (mW _)
  _<=256*2^56:=aEG _ (uD uAv uAu)
  _=18446744073709551616:=by decide
theorem aHp (l:List UInt8):∀k,k<=8->wd l k<18446744073709551616
 |0,_=>lZ _
 |k+1,h=>or_lt (aHp l k uAu) (aEt _ k uAu)
theorem aLi (seed:Nat) (l:List UInt8):∀j,hs seed l j<18446744073709551616
 |0=>aF2 _ _
 |_+1=>aF2 _ _
theorem qX (a c:Nat):IntKind.u64.wrap ((a:Int)*(c:Int))=((a*c % 18446744073709551616:Nat):Int):=by
 rw[iB,<-Int.natCast_mul];omega
theorem aAk (a c:Nat):IntKind.u64.wrap ((a:Int)+(c:Int))=(((a+c) % 18446744073709551616:Nat):Int):=by
 rw[iB];omega
theorem aHZ (a c:Nat):(a:Int)/(c:Int)=((a/c:Nat):Int):=(aJH a c).symm
theorem oJ {x y:Int} (h:x=y):Ending.returned (.int .u64 x)=.returned (.int .u64 y):=by rw[h]
theorem aHC {x y:Int} (h:x=y):Ending.returned (.int .i64 x)=.returned (.int .i64 y):=by rw[h]
theorem aHA (t:Nat) (ht:t<18446744073709551616):
  bits .or .u64 (IntKind.u64.wrap ((t:Int)*2147483648)) ((t:Int)/8589934592)=(aKm t:Int):=by
 have e1:=qX t 2147483648;have e2:=aHZ t 8589934592;have e3:=bits_or_u64_nat (t*2147483648 % 18446744073709551616) (t/8589934592) (mP _ uAv) uAu;rw[<-e1,<-e2]at e3;exact e3
theorem aBT (h:Nat) (hh:h<18446744073709551616):bits .xor .u64 (h:Int) ((h:Int)/4294967296)=(qI h:Int):=
 xorShift_u64 h 4294967296 hh
theorem aKT (x:Nat) (hx:x<18446744073709551616) (w:World):
  Calls Tryz.prog 102 #[.int .u64 (x:Int),.int .i64 31] w fun e w'=>e=.returned (.int .u64 (aKm x:Int))/\w=w':=by
 have H:=aJ (aHA x hx);have hb:bits BinOp.and IntKind.u64 31 63=31:=by decide
 go_enter Tryz.func102,Tryz.ntmps102;go_wp2
 go_ret;exact⟨oJ H.out,rfl⟩
theorem aFy (h:Nat) (hh:h<18446744073709551616) (w:World):
  Calls Tryz.prog 103 #[.int .u64 (h:Int)] w fun e w'=>e=.returned (.int .u64 (qI h:Int))/\w=w':=by
 have H:=aJ (aBT h hh);go_enter Tryz.func103,Tryz.ntmps103;go_wp2
 go_ret;exact⟨oJ H.out,rfl⟩
theorem aEJ (h x:Nat) (hh:h<18446744073709551616) (hx:x<18446744073709551616):
  IntKind.u64.wrap (bits .xor .u64 (h:Int) (x:Int)*11400714819323198485)=(aCN (h^^^x):Int):=by
 rw[bits_xor_u64_nat h x hh hx];exact qX _ 11400714819323198485
theorem aFA (h x:Nat) (hh:h<18446744073709551616) (hx:x<18446744073709551616) (w:World):
  Calls Tryz.prog 72 #[.int .u64 (h:Int),.int .u64 (x:Int)] w fun e w'=>e=.returned (.int .u64 (aBd h x:Int))/\w=w':=by
 have h1:=aEJ h x hh hx;have H2:=aJ (aAk (aKm (aCN (h^^^x))) 15485907386658061715);have l:aCN (h^^^x)<18446744073709551616:=mP _ uAv;have L:=aJ l;clear l hh hx;go_enter Tryz.func72,Tryz.ntmps72;go_wp2_with fail
 refine(aKT _ L.out w).mono ?_;rintro e w1 ⟨rfl,rfl⟩;go_wp2_with fail
 go_ret;exact⟨oJ H2.out,rfl⟩
theorem aMM (h:Nat) (hh:h<18446744073709551616) (w:World):
  Calls Tryz.prog 74 #[.int .u64 (h:Int)] w fun e w'=>e=.returned (.int .u64 (aFX h:Int))/\w=w':=by
 have h1:=qX (qI h) 15485907386658061715;have l:qI h*15485907386658061715 % 18446744073709551616<18446744073709551616:=mP _ uAv;obtain⟨m,hm⟩:∃m,m=qI h*15485907386658061715 % 18446744073709551616:=⟨_,rfl⟩
 rw[<-hm]at h1 l;have h2:IntKind.u64.wrap ((qI h:Int)*15485907386658061715)=(m:Int):=h1;have E:=aJ (show aFX h=qI m by rw[hm];rfl);have L:=aJ l;have HH:=aJ hh;clear hm h1 l hh;go_enter Tryz.func74,Tryz.ntmps74;go_wp2_with fail
 refine(aFy _ HH.out w).mono ?_;rintro e w1 ⟨rfl,rfl⟩;go_wp2_with fail
 refine(aFy _ L.out w).mono ?_;rintro e w1 ⟨rfl,rfl⟩;go_wp2_with fail
 go_ret;exact⟨oJ (by rw[E.out]),rfl⟩
theorem aFe (h x:Nat) (hh:h<18446744073709551616) (hx:x<18446744073709551616) (w:World):
  Calls Tryz.prog 75 #[.int .u64 (h:Int),.int .u64 (x:Int)] w fun e w'=>e=.returned (.int .u64 (aBd h x:Int))/\w=w':=by
 have h1:=aEJ h x hh hx;have h2:=aHA (aCN (h^^^x)) (mP _ uAv);have H3:=aJ (aAk (aKm (aCN (h^^^x))) 15485907386658061715);clear hh hx;go_enter Tryz.func75,Tryz.ntmps75;go_wp2
 go_ret;exact⟨oJ H3.out,rfl⟩
theorem aMA (h:Nat) (hh:h<18446744073709551616) (w:World):
  Calls Tryz.prog 76 #[.int .u64 (h:Int)] w fun e w'=>e=.returned (.int .u64 (aFX h:Int))/\w=w':=by
 have h1:=qX (qI h) 15485907386658061715;have l:qI h*15485907386658061715 % 18446744073709551616<18446744073709551616:=mP _ uAv;obtain⟨m,hm⟩:∃m,m=qI h*15485907386658061715 % 18446744073709551616:=⟨_,rfl⟩
 rw[<-hm]at h1 l;have h0:=aBT h hh;have h2:IntKind.u64.wrap ((qI h:Int)*15485907386658061715)=(m:Int):=h1;have E:=aJ (show aFX h=qI m by rw[hm];rfl);have h3:=aBT m l;clear hm h1 l hh;go_enter Tryz.func76,Tryz.ntmps76;go_wp2
 go_ret;exact⟨oJ (by rw[E.out]),rfl⟩
section
variable {P : Program} {md : Region.Mode} {ops : Array Oper} {Q : Exit → Act → World → Prop} {S : World → Prop} {U : List Nat}
def dX (P:Program) (md:Region.Mode) (ops:Array Oper) (Q:Exit->Act->World->Prop) (S:World->Prop) (U:List Nat):Nat->Array Bool->Act->World->Prop
 |0,listed,a,w=>Region.ready md ops listed=[]/\Q .normal a w
 |fuel+1,listed,a,w=>
  (Region.ready md ops listed=[]->Q .normal a w)/\
  ∀i∈Region.ready md ops listed,wpOp P ops Q i (fun a' w'=>(U.contains i=false->S w')/\dX P md ops Q S U fuel (listed.setIfInBounds i true) a' w') a w
theorem xA:∀(fuel:Nat) (listed:Array Bool) (a:Act) (w:World),dX P md ops Q S U fuel listed a w->wpAny P md ops Q fuel listed a w
 |0,_,_,_,h=>h
 |fuel+1,_,_,_,h=>⟨h.1,fun i hi=>aJC (fun a' w' h'=>xA fuel _ a' w' h'.2) (h.2 i hi)⟩
def aB5 (md:Region.Mode) (ops:Array Oper) (i:Nat):Nat->Nat->Bool
 |0,_=>false
 |n+1,j=>match ops[j]? with|some o=>o.after.any fun e=>Region.binds md e&&(e.on==i||aB5 md ops i n e.on)|none=>false
def kD (md:Region.Mode) (ops:Array Oper) (U:List Nat) (i:Nat):Bool:=U.all fun j=>aB5 md ops i ops.size j
def tY (md:Region.Mode) (ops:Array Oper) (listed:Array Bool):Prop:=
 ∀k ok,ops[k]? =some ok->listed.getD k false=true->∀e∈ok.after,Region.binds md e=true->listed.getD e.on false=true
def nJ (md:Region.Mode) (ops:Array Oper) (listed:Array Bool):Bool:=
 (List.range ops.size).all fun k=> !listed.getD k false||(match ops[k]? with|some o=>o.after.all fun e=> !Region.binds md e||listed.getD e.on false|none=>true)
theorem sL {listed:Array Bool} (h:nJ md ops listed=true):tY md ops listed:=by
 intro k ok hk hl e he hb;unfold nJ at h;rw[fO]at h;have h1:=h k (by rw[fL];exact(Array.getElem?_eq_some_iff.1 hk).1);rw[hl,hk]at h1;simp only[Bool.not_true,Bool.false_or]at h1;rw[cO]at h1;have h2:=h1 e he;rw[hb]at h2;simpa using h2
theorem aCG {i:Nat} {listed:Array Bool} (hc:tY md ops listed) (hi:listed.getD i false=false):∀(n j:Nat),aB5 md ops i n j=true->listed.getD j false=true->False
 |0,_,h,_=>by cases h
 |n+1,j,h,hl=>by
  unfold aB5 at h;cases hj:ops[j]? with
  |none=>rw[hj]at h;cases h
  |some o=>
   rw[hj]at h;simp only at h;rw[aIg]at h;obtain⟨k,hk,h2⟩:=h;rw[fB,pR,kL]at h2;have hon:=hc j o hj hl _ (aIf hk) h2.1;rcases h2.2 with h3|h3
   ·rw[h3,hi]at hon;cases hon
   ·exact aCG hc hi n _ h3 hon
theorem aAj {i j:Nat} {listed:Array Bool} (h:kD md ops U i=true) (hc:tY md ops listed) (hi:listed.getD i false=false) (hU:U.contains j=true) (hj:j∈Region.ready md ops listed):False:=by
 unfold kD at h;rw[fO]at h;have h1:=h j (by simpa using hU);obtain⟨_,oj,hoj,hall⟩:=sZ.1 hj;cases hn:ops.size with
 |zero=>rw[hn]at h1;cases h1
 |succ n=>
  rw[hn]at h1;unfold aB5 at h1;rw[hoj]at h1;simp only at h1;rw[aIg]at h1;obtain⟨k,hk,h2⟩:=h1;rw[fB,pR,kL]at h2;have hon:=hall _ (aIf hk) h2.1;rcases h2.2 with h3|h3
  ·rw[h3,hi]at hon;cases hon
  ·exact aCG hc hi n _ h3 hon
theorem xS {j:Nat} {listed:Array Bool} (hc:tY md ops listed) (hj:j∈Region.ready md ops listed):tY md ops (listed.setIfInBounds j true):=by
 obtain⟨_,oj,hoj,hall⟩:=sZ.1 hj;intro k ok hk hl e he hb;by_cases hjk:j=k
 ·subst hjk
  rw[hoj]at hk;obtain rfl:=aN hk;exact getD_set_true (hall e he hb)
 ·rw[qU false hjk]at hl
  exact getD_set_true (hc k ok hk hl e he hb)
theorem aDC {i:Nat} {oi:Oper} {v:Value} (hi:ops[i]? =some oi) (hsel:∀(j:Nat) (o:Oper) cs b,ops[j]? =some o->o.op≠.select cs b)
  (hQ:∀c a w,Q (.panic c) (a.put oi.dst v) w->Q (.panic c) a w) (hw:kD md ops U i=true):
  ∀(fuel:Nat) (listed:Array Bool) (a:Act) (w:World),
   (∀j oj,ops[j]? =some oj->j≠i->listed.getD j true=false->(∀e∈oj.after,Region.binds md e=true->e.on≠i)->oi.apart ops oj=true)->
   tY md ops listed->i∈Region.ready md ops listed->YieldsIf P ops S oi v a->S w->
   dX P md ops Q S U fuel (listed.setIfInBounds i true) (a.put oi.dst v) w->dX P md ops Q S U (fuel+1) listed a w:=by
 intro fuel;induction fuel with
 |zero=>
  intro listed a w _ _ hr hy hS H;refine⟨fun h=>uEu,fun j hj=> ?_⟩;by_cases hji:j=i
  ·subst hji;exact hy.wpOp hi hS ⟨fun _=>hS,H⟩
  ·have:=jT hj hji
   rw[H.1]at this;cases this
 |succ fuel ih=>
  intro listed a w hfree hcl hr hy hS H;refine⟨fun h=>uEu,fun j hj=> ?_⟩;by_cases hji:j=i
  ·subst hji;exact hy.wpOp hi hS ⟨fun _=>hS,H⟩
  ·have h1:=H.2 j (jT hj hji)
   obtain⟨hjun,oj,hoj,hall⟩:=sZ.1 hj;have hifalse:listed.getD i false=false:=by
    exact Ab5
   have hnot:∀e∈oj.after,Region.binds md e=true->e.on≠i:=fun e he hb heq=>by
    have h1:=hall e he hb;rw[heq,hifalse]at h1;cases h1
   have hnU:U.contains j=false:=by
    exact Af1
   have h2:=wpOp_putIf hoj (hfree j oj hoj hji hjun hnot) (fun cs b=>hsel i oi cs b hi) (fun cs b=>hsel j oj cs b hoj) hQ hy h1;exact Ab4
theorem aAi {i:Nat} {oi:Oper} {v:Value} {fuel:Nat} {listed:Array Bool} {a:Act} {w:World} (hi:ops[i]? =some oi)
  (hs:Region.noSelect ops=true) (hf:Region.free md ops listed i=true) (hr:(Region.ready md ops listed).contains i=true) (hw:(kD md ops U i&&nJ md ops listed)=true)
  (hQ:∀c a w,Q (.panic c) (a.put oi.dst v) w->Q (.panic c) a w) (hy:YieldsIf P ops S oi v a) (hS:S w)
  (h:dX P md ops Q S U fuel (listed.setIfInBounds i true) (a.put oi.dst v) w):dX P md ops Q S U (fuel+1) listed a w:=
 aDC hi (lA hs) hQ (bI.1 hw).1 fuel listed a w (oM hi hf) (sL (bI.1 hw).2) uJz hy hS h
theorem tkA (i d:Nat) {x1 x2 x3 x4 x5:_} {v:Value} {fuel:Nat} {listed:Array Bool} {a:Act} {w:World} (hi:ops[i]? =some ⟨some d,x1,x2,x3,x4,x5⟩:=by rfl) (hq:(Region.noSelect ops&&Region.free md ops listed i&&(Region.ready md ops listed).contains i&&(kD md ops U i&&nJ md ops listed))=true:=by kernel_rfl) (hQ:∀c a w,Q (.panic c) (a.put (some d) v) w->Q (.panic c) a w:=by exact fun _ _ _ h=>h) (hg:Region.wanted ⟨some d,x1,x2,x3,x4,x5⟩ (yielded ops a.tmps)=true:=by rfl) (hv:∀w,S w->(execOp a.eval ⟨some d,x1,x2,x3,x4,x5⟩).run P w=.ok (.value v) w:=by(intro w hSw;(try dsimp only at hSw);first|(go_simp;done)|(go_simp;with_reducible rfl))) (hS:S w:=by assumption) (h:dX P md ops Q S U fuel (listed.setIfInBounds i true) (a.put (some d) v) w):dX P md ops Q S U (fuel+1) listed a w:=
 have h1:=bI.1 hq;have h2:=bI.1 h1.1;have h3:=bI.1 h2.1
 aAi hi h3.1 h3.2 h2.2 h1.2 hQ (Or.inl ⟨hg,hv⟩) hS h
theorem tyA (i d:Nat) {x1 x2 x3 x4 x5:_} {v:Value} {fuel:Nat} {listed:Array Bool} {a:Act} {w:World} (hi:ops[i]? =some ⟨some d,x1,x2,x3,x4,x5⟩:=by rfl) (hq:(Region.noSelect ops&&Region.free md ops listed i&&(Region.ready md ops listed).contains i&&(kD md ops U i&&nJ md ops listed))=true:=by kernel_rfl) (hQ:∀c a w,Q (.panic c) (a.put (some d) v) w->Q (.panic c) a w:=by exact fun _ _ _ h=>h) (hy:YieldsIf P ops S ⟨some d,x1,x2,x3,x4,x5⟩ v a) (hS:S w:=by assumption) (h:dX P md ops Q S U fuel (listed.setIfInBounds i true) (a.put (some d) v) w):dX P md ops Q S U (fuel+1) listed a w:=
 have h1:=bI.1 hq;have h2:=bI.1 h1.1;have h3:=bI.1 h2.1
 aAi hi h3.1 h3.2 h2.2 h1.2 hQ hy hS h
theorem bK {listed:Array Bool} {a:Act} {w:World} (hr:Region.ready md ops listed=[]) (h:Q .normal a w):
  ∀fuel,dX P md ops Q S U fuel listed a w
 |0=>⟨hr,h⟩
 |_+1=>⟨fun _=>h,by rw[hr];simp⟩
theorem bL {id:Nat} {a:Act} {w:World} (U:List Nat) (hm:P.follows .mixedOrders=true) (hS:S w.drew)
  (h:S w.drew->dX P .any ops Q S U ops.size (Array.replicate ops.size false) a w.drew):(Code.region id ops true).wp P Q a w:=
 wp_region_any hm (xA _ _ _ _ (h hS))
theorem jE {fuel:Nat} {listed:Array Bool} {a:Act} {w:World} {i:Nat} {o:Oper} (hr:Region.ready md ops listed=[i]) (ho:ops[i]? =some o)
  (h:∀K':Act->World->Prop,Shut (∀a w,S w->(S w->dX P md ops Q S U fuel (listed.setIfInBounds i true) a w)->K' a w)->if Region.wanted o (yielded ops a.tmps)=true then Oper.wp P o a w K' Q else K' (a.put o.dst undef) w):
  dX P md ops Q S U (fuel+1) listed a w:=by
 refine⟨fun h0=>absurd (hr▸h0) uBu,fun j hj=> ?_⟩;rw[hr]at hj;obtain rfl:j=i:=by simpa using hj
 exact aJB ho (fun K' hK=>h K' (fun a w hS hW=>hK a w ⟨fun _=>hS,hW hS⟩))
theorem tkO (i:Nat) (d:Option Nat) {x1 x2 x3 x4 x5:_} {fuel:Nat} {listed:Array Bool} {a:Act} {w:World} (hr:Region.ready md ops listed=[i]:=by kernel_rfl) (ho:ops[i]? =some ⟨d,x1,x2,x3,x4,x5⟩:=by rfl) (h:∀K':Act->World->Prop,Shut (∀a w,S w->(S w->dX P md ops Q S U fuel (listed.setIfInBounds i true) a w)->K' a w)->if Region.wanted ⟨d,x1,x2,x3,x4,x5⟩ (yielded ops a.tmps)=true then Oper.wp P ⟨d,x1,x2,x3,x4,x5⟩ a w K' Q else K' (a.put d undef) w):dX P md ops Q S U (fuel+1) listed a w:=jE hr ho h
theorem aEL {fuel:Nat} {listed:Array Bool} {a:Act} {w:World} {i:Nat} {o:Oper} (hr:Region.ready md ops listed=[i]) (hU:U.contains i=true) (ho:ops[i]? =some o)
  (h:∀K':Act->World->Prop,Shut (∀a w,dX P md ops Q S U fuel (listed.setIfInBounds i true) a w->K' a w)->if Region.wanted o (yielded ops a.tmps)=true then Oper.wp P o a w K' Q else K' (a.put o.dst undef) w):
  dX P md ops Q S U (fuel+1) listed a w:=by
 refine⟨fun h0=>absurd (hr▸h0) uBu,fun j hj=> ?_⟩;rw[hr]at hj;obtain rfl:j=i:=by simpa using hj
 exact aJB ho (fun K' hK=>h K' (fun a w hW=>hK a w ⟨(fun hc=>absurd (hU.symm.trans hc) uAv),hW⟩))
theorem tkU (i:Nat) (d:Option Nat) {x1 x2 x3 x4 x5:_} {fuel:Nat} {listed:Array Bool} {a:Act} {w:World} (hr:Region.ready md ops listed=[i]:=by kernel_rfl) (hU:U.contains i=true:=by decide) (ho:ops[i]? =some ⟨d,x1,x2,x3,x4,x5⟩:=by rfl) (h:∀K':Act->World->Prop,Shut (∀a w,dX P md ops Q S U fuel (listed.setIfInBounds i true) a w->K' a w)->if Region.wanted ⟨d,x1,x2,x3,x4,x5⟩ (yielded ops a.tmps)=true then Oper.wp P ⟨d,x1,x2,x3,x4,x5⟩ a w K' Q else K' (a.put d undef) w):dX P md ops Q S U (fuel+1) listed a w:=aEL hr hU ho h
def mY (P:Program) (md:Region.Mode) (ops:Array Oper) (Q:Exit->Act->World->Prop) (S:World->Prop) (U:List Nat) (fuel:Nat) (listed:Array Bool) (a:Act) (w:World) (rs:List Nat):Prop:=
 ∀i∈rs,wpOp P ops Q i (fun a' w'=>(U.contains i=false->S w')/\dX P md ops Q S U fuel (listed.setIfInBounds i true) a' w') a w
theorem mY.nil {fuel:Nat} {listed:Array Bool} {a:Act} {w:World}:mY P md ops Q S U fuel listed a w []:=fun _ h=>by cases h
theorem mY.cons {fuel:Nat} {listed:Array Bool} {a:Act} {w:World} {i:Nat} {o:Oper} {rs:List Nat} (ho:ops[i]? =some o)
  (h:∀K':Act->World->Prop,Shut (∀a w,S w->(S w->dX P md ops Q S U fuel (listed.setIfInBounds i true) a w)->K' a w)->if Region.wanted o (yielded ops a.tmps)=true then Oper.wp P o a w K' Q else K' (a.put o.dst undef) w)
  (hs:mY P md ops Q S U fuel listed a w rs):mY P md ops Q S U fuel listed a w (i::rs):=fun j hj=>by
 rcases bA.1 hj with rfl|hj
 ·exact aJB ho (fun K' hK=>h K' (fun a w hS hW=>hK a w ⟨fun _=>hS,hW hS⟩))
 ·exact hs j hj
theorem kN {rs:List Nat} {fuel:Nat} {listed:Array Bool} {a:Act} {w:World} (hr:Region.ready md ops listed=rs) (hne:rs≠[])
  (h:mY P md ops Q S U fuel listed a w rs):dX P md ops Q S U (fuel+1) listed a w:=⟨fun h0=>absurd (hr▸h0) hne,hr▸h⟩
theorem aP {op:Oper} {a:Act} (hw:Region.wanted op (yielded ops a.tmps)=true) (ty:TypeId) (x:Operand) (ho:op.op=.load ty x)
  (X:Nat) (hx:a.eval x=.pointer (some ⟨X,0,none⟩)) (c:Array Value) (T:TypeId) (fr:Nat×Nat) (d:TypeDesc) (hS:∀w,S w->w.heap[X]? =some (.cells c T fr))
  (hu:P.underlying ty=some d) (hd:d.isRow=true) (hi:(P.info? ty).map (·.size)=some c.size):YieldsIf P ops S op (.agg c) a:=
 .inl ⟨hw,fun w hw'=>by
  unfold execOp;simp only[ho,hx,Instr.loadAt,Instr.sureAddr,fF,fR,cS,run_loadVar_row w X T ty c fr d (hS w hw') hu uHw hi]⟩
end
end Go.Proofs.YtengibnpebfblaaGreatDoor
namespace Go.Proofs.YtengibnpebfblaaGreatDoor
open Go.RowKit
section
variable {P : Program} {md : Region.Mode} {ops : Array Oper} {Q : Exit → Act → World → Prop} {S : World → Prop} {U : List Nat}
def kP (P:Program) (ops:Array Oper) (S:World->Prop) (o:Oper) (v:Value) (a:Act):Prop:=
 Region.wanted o (yielded ops a.tmps)=true/\∀w,S w->∃f args,(execOp a.eval o).run P w=.ok (.enter f args) w/\Calls P f args w fun e w'=>e=.returned v/\w'=w
theorem kP.wpOp {i:Nat} {o:Oper} {v:Value} {a:Act} (hi:ops[i]? =some o) (hy:kP P ops S o v a)
  {K:Act->World->Prop} {w:World} (hS:S w) (h:K (a.put o.dst v) w):wpOp P ops Q i K a w:=by
 obtain⟨hw,hv⟩:=hy;obtain⟨f,args,hrun,hc⟩:=hv w hS;unfold Go.wpOp;simp only[hi,hw,if_true,Oper.wp,hrun,Oper.upon];refine .inl (hc.mono ?_);rintro e w' ⟨rfl,rfl⟩;exact h
theorem kP.of_same {o:Oper} {v:Value} {a a':Act} (hy:kP P ops S o v a) (he:execOp a'.eval o=execOp a.eval o)
  (hw:Region.wanted o (yielded ops a'.tmps)=Region.wanted o (yielded ops a.tmps)):kP P ops S o v a':=by
 unfold kP at*
 rw[he,hw];exact hy
theorem aIi {j:Nat} {oi oj:Oper} {v:Value} (hj:ops[j]? =some oj) (hap:oi.apart ops oj=true)
  (hsi:∀cs b,oi.op≠.select cs b) (hsj:∀cs b,oj.op≠.select cs b)
  (hQ:∀c a w,Q (.panic c) (a.put oi.dst v) w->Q (.panic c) a w) {K:Act->World->Prop} {a:Act} {w:World}
  (hy:kP P ops S oi v a) (h:wpOp P ops Q j K (a.put oi.dst v) w):
  wpOp P ops Q j (fun a' w'=>kP P ops S oi v a'/\K (a'.put oi.dst v) w') a w:=by
 obtain⟨h1,h2,h3⟩:=Oper.apart_spec hap;have keep:∀(a:Act),kP P ops S oi v a->∀u,kP P ops S oi v (a.put oj.dst u):=fun a hy u=>
  hy.of_same (aGo oi hsi a oj.dst u h3) (wanted_put oi a oj.dst u h3)
 have keepD:∀d,kP P ops S oi v {a with defers:=d::a.defers}:=fun d=>hy.of_same rfl rfl
 unfold wpOp at*
 simp only[hj]at*
 rw[wanted_put oj a oi.dst v h1]at h;split
 ·rename_i hw
  simp only[hw,if_true]at h;rcases h with h|⟨hasks,hlets⟩
  case inr=>exact .inr ⟨by unfold Oper.asks at*;rw[aGo oj hsj a oi.dst v h1]at hasks;exact hasks,hlets⟩
  refine .inl ?_;unfold Oper.wp at*
  rw[aGo oj hsj a oi.dst v h1]at h;generalize(execOp a.eval oj).run P w=r at*
  cases r with
  |ok n w'=>
   cases n<;>simp only[Oper.upon]at h ⊢
   case value u=>exact⟨keep a hy u,by rw[<-iN a v u h2];exact h⟩
   case skip=>exact⟨keep a hy _,by rw[<-iN a v undef h2];exact h⟩
   case defer d=>
    refine⟨keep _ (keepD d) _,?_⟩;rw[<-iN _ v undef h2,<-Act.put_defers];exact h
   case enter f args=>
    refine Calls.mono h fun e w'' he=> ?_
    cases e with
    |returned u=>exact⟨keep a hy u,by rw[<-iN a v u h2];exact he⟩
    |panicked c=>exact hQ _ _ _ he
    |outgrown=>exact he
   case row row args=>exact Rows.mono h fun u w'' he=>⟨keep a hy u,by rw[<-iN a v u h2];exact he⟩
  |halt x w'=>
   cases x<;>simp only[Oper.upon]at h ⊢
   case panic u=>exact hQ _ _ _ h
 ·rename_i hw
  simp only[hw]at h;exact⟨keep a hy _,by rw[<-iN a v undef h2];exact h⟩
theorem aCs {i:Nat} {oi:Oper} {v:Value} (hi:ops[i]? =some oi) (hsel:∀(j:Nat) (o:Oper) cs b,ops[j]? =some o->o.op≠.select cs b)
  (hQ:∀c a w,Q (.panic c) (a.put oi.dst v) w->Q (.panic c) a w) (hw:kD md ops U i=true):
  ∀(fuel:Nat) (listed:Array Bool) (a:Act) (w:World),
   (∀j oj,ops[j]? =some oj->j≠i->listed.getD j true=false->(∀e∈oj.after,Region.binds md e=true->e.on≠i)->oi.apart ops oj=true)->
   tY md ops listed->i∈Region.ready md ops listed->kP P ops S oi v a->S w->
   dX P md ops Q S U fuel (listed.setIfInBounds i true) (a.put oi.dst v) w->dX P md ops Q S U (fuel+1) listed a w:=by
 intro fuel;induction fuel with
 |zero=>
  intro listed a w _ _ hr hy hS H;refine⟨fun h=>uEu,fun j hj=> ?_⟩;by_cases hji:j=i
  ·subst hji;exact hy.wpOp hi hS ⟨fun _=>hS,H⟩
  ·have:=jT hj hji
   rw[H.1]at this;cases this
 |succ fuel ih=>
  intro listed a w hfree hcl hr hy hS H;refine⟨fun h=>uEu,fun j hj=> ?_⟩;by_cases hji:j=i
  ·subst hji;exact hy.wpOp hi hS ⟨fun _=>hS,H⟩
  ·have h1:=H.2 j (jT hj hji)
   obtain⟨hjun,oj,hoj,hall⟩:=sZ.1 hj;have hifalse:listed.getD i false=false:=by
    exact Ab5
   have hnot:∀e∈oj.after,Region.binds md e=true->e.on≠i:=fun e he hb heq=>by
    have h1:=hall e he hb;rw[heq,hifalse]at h1;cases h1
   have hnU:U.contains j=false:=by
    exact Af1
   have h2:=aIi hoj (hfree j oj hoj hji hjun hnot) (fun cs b=>hsel i oi cs b hi) (fun cs b=>hsel j oj cs b hoj) hQ hy h1;exact Ab4
theorem pM {i:Nat} {oi:Oper} {v:Value} {fuel:Nat} {listed:Array Bool} {a:Act} {w:World} (hi:ops[i]? =some oi)
  (hs:Region.noSelect ops=true) (hf:Region.free md ops listed i=true) (hr:(Region.ready md ops listed).contains i=true) (hw:(kD md ops U i&&nJ md ops listed)=true)
  (hQ:∀c a w,Q (.panic c) (a.put oi.dst v) w->Q (.panic c) a w) (hy:kP P ops S oi v a) (hS:S w)
  (h:dX P md ops Q S U fuel (listed.setIfInBounds i true) (a.put oi.dst v) w):dX P md ops Q S U (fuel+1) listed a w:=
 aCs hi (lA hs) hQ (bI.1 hw).1 fuel listed a w (oM hi hf) (sL (bI.1 hw).2) uJz hy hS h
end
end Go.Proofs.YtengibnpebfblaaGreatDoor
namespace Go.Proofs.YtengibnpebfblaaGreatDoor
open Go.RowKit
theorem bU {P:Program} {fn:Func} {p u:Tmp} {ty:TypeId} (h:fn.results=#[.cell p ty,.tmp u]) (tmps:Array Value) (w:World) (g:Nat) (t:TypeId) (cs:Array Value) (fr:Nat×Nat) (d:TypeDesc)
  (hp:tmps.getD p undef=.pointer (some ⟨g,0,none⟩)) (hg:w.heap[g]? =some (.cells cs t fr))
  (hu:P.underlying ty=some d) (hd:(match d with| .struct _| .array _ _=>true|_=>false)=true) (hi:(P.info? ty).map (·.size)=some cs.size):
  (results fn tmps).run P w=.ok (.tuple #[.agg cs,tmps.getD u undef]) w:=by
 have hp':tmps[p]?.getD undef=.pointer (some ⟨g,0,none⟩):=by simpa using hp
 simp[results,h,hp',asAddr,run_loadVar_row w g t ty cs fr d hg hu hd hi]
end Go.Proofs.YtengibnpebfblaaGreatDoor
