import Derived.Test.YtengibnpebfblaaGreatDoorQ0
import Derived.Test.YtengibnpebfblaaGreatDoorQ38
import Derived.Test.YtengibnpebfblaaGreatDoorQ36
import Derived.Test.YtengibnpebfblaaGreatDoorQ42
set_option maxRecDepth 1000000
set_option maxHeartbeats 8000000
set_option linter.unusedSimpArgs false
namespace Go.Proofs
open Go.Shelf
def Tryz.insI_ren:Go.Shelf.Ren:=⟨fun|20=>128|n=>n,fun|24=>3|22=>99|3=>3|25=>111|4=>4|0=>0|n=>n,fun|n=>n⟩
theorem Tryz.insI:Go.Proofs.SlLaysF.n20 Tryz.prog Tryz.insI_ren:={
 mixed:=by kernel_rfl
 f20:=⟨Tryz.f128.name,by decide,Tryz.func128.trans (bH some hO)⟩
 t0:=Tryz.underlying0
 a0:=Tryz.isAgg0
 z0:=Tryz.sizeOf0
 v0:=Tryz.zeroValue0
 t3:=Tryz.underlying3
 a3:=Tryz.isAgg3
 z3:=Tryz.sizeOf3
 v3:=Tryz.zeroValue3
 t4:=Tryz.underlying4
 a4:=Tryz.isAgg4
 z4:=Tryz.sizeOf4
 v4:=Tryz.zeroValue4
 t22:=Tryz.underlying99
 a22:=Tryz.isAgg99
 z22:=Tryz.sizeOf99
 v22:=Tryz.zeroValue99
 a24:=Tryz.isAgg3
 z24:=Tryz.sizeOf3
 t25:=Tryz.underlying111
 a25:=Tryz.isAgg111
 z25:=Tryz.sizeOf111
 v25:=Tryz.zeroValue111}
end Go.Proofs
namespace Go.Proofs.YtengibnpebfblaaGreatDoor
open Go.RowKit
def LeT (a b:Tr):Prop:=eC a b<=0
theorem LeT.trans {a b c:Tr} (h:LeT a b) (h':LeT b c):LeT a c:=(yO _ _ _ h h').1
theorem aDa {a b:Tr} (h:¬LeT a b):LeT b a:=by
 unfold LeT eC at*
 rw[xL];omega
theorem LeT.anti {a b:Tr} (ha:jR a) (hb:jR b) (h:LeT a b) (h':LeT b a):a=b:=by
 unfold LeT eC at*
 rw[xL]at h';exact aHP ha hb ((gJ _ _).1 uAu)
def qH (t:Tr) (P:List Tr):Nat:=(P.takeWhile fun x=>decide (eC x t<=0)).length
def fT (l:List Tr):List Tr:=l.foldl (fun P t=>iQ (qH t P) P t) []
theorem aIA (l:List Tr) (t:Tr):fT (l++[t])=iQ (qH t (fT l)) (fT l) t:=by
 unfold fT;rw[nO];rfl
theorem aMT (t:Tr) (P:List Tr):qH t P<=P.length:=(List.takeWhile_prefix _).length_le
theorem aHS {t:Tr}:∀{P:List Tr} {j:Nat} (hj:j<P.length),(∀q (h:q<P.length),q<j->eC P[q] t<=0)->((eC P[j] t<=0->j+1<=qH t P)/\(¬eC P[j] t<=0->qH t P=j))
 |[],_,hj,_=>absurd hj (dD _)
 |x::r,0,_,_=>by
  unfold qH;rw[eX];by_cases h:eC x t<=0
  ·rw[if_pos uDw,aL]
   exact⟨fun _=>by omega,fun e=>absurd h e⟩
  ·rw[if_neg uDw,bG]
   exact⟨fun e=>absurd e h,fun _=>rfl⟩
 |x::r,j+1,hj,hq=>by
  have h0:eC x t<=0:=hq 0 (lZ _) (lZ _);have ih:=aHS (t:=t) (P:=r) (j:=j) (rJ hj) fun q h hqj=>hq (q+1) (oN h) (oN hqj)
  unfold qH at*
  rw[eX,if_pos uNx,aL];refine⟨fun e=> ?_,fun e=> ?_⟩
  ·have:=ih.1 e;omega
  ·have:=ih.2 e;omega
theorem aLb {t:Tr}:∀{P:List Tr},(∀q (h:q<P.length),eC P[q] t<=0)->qH t P=P.length
 |[],_=>rfl
 |x::r,h=>by
  have h0:eC x t<=0:=h 0 (lZ _);have ih:=aLb (t:=t) (P:=r) fun q hq=>h (q+1) (oN hq)
  unfold qH at*
  rw[eX,if_pos uNx,aL,aL,ih]
theorem jL:∀(l:List Tr),(fT l).Perm l:=fun l=>by
 have h:∀(l P:List Tr),(l.foldl (fun P t=>iQ (qH t P) P t) P).Perm (P++l):=fun l=>by
  induction l with
  |nil=>intro P;simp
  |cons x r ih=>
   intro P;rw[gN];refine(ih _).trans ?_;refine((vH _ P x).append_right r).trans ?_;rw[bC];exact mC.symm
 exact h l []
theorem qD (l:List Tr):(fT l).length=l.length:=(jL l).length_eq
theorem aGP {P:List Tr} (t:Tr) (h:P.Pairwise LeT):(iQ (qH t P) P t).Pairwise LeT:=by
 induction P with
 |nil=>unfold iQ qH;simp
 |cons x r ih=>
  obtain⟨h1,h2⟩:=cR.1 h;by_cases hx:eC x t<=0
  ·have he:iQ (qH t (x::r)) (x::r) t=x::iQ (qH t r) r t:=by
    unfold iQ qH;rw[eX,if_pos (by simpa using hx),aL,fP,List.drop_succ_cons,bC]
   rw[he];refine cR.2 ⟨fun y hy=> ?_,ih h2⟩;rcases bA.1 ((vH _ r t).mem_iff.1 hy)with rfl|hy
   ·exact hx
   ·exact h1 y hy
  ·have he:iQ (qH t (x::r)) (x::r) t=t::x::r:=by
    unfold iQ qH;rw[eX,if_neg (by simpa using hx)];rfl
   rw[he];have htx:LeT t x:=aDa hx;refine cR.2 ⟨fun y hy=> ?_,h⟩;rcases bA.1 hy with rfl|hy
   ·exact htx
   ·exact htx.trans (h1 y hy)
theorem mT (l:List Tr):(fT l).Pairwise LeT:=by
 have h:∀(l P:List Tr),P.Pairwise LeT->(l.foldl (fun P t=>iQ (qH t P) P t) P).Pairwise LeT:=fun l=>by
  induction l with
  |nil=>intro P h;exact h
  |cons x r ih=>intro P h;rw[gN];exact ih _ (aGP x h)
 exact h l [] List.Pairwise.nil
theorem aBf:∀{l m:List Tr},l.Perm m->(∀x∈m,jR x)->l.Pairwise LeT->m.Pairwise LeT->l=m
 |[],m,hp,_,_,_=>(List.Perm.nil_eq hp)
 |x::r,[],hp,_,_,_=>absurd hp.length_eq uBu
 |x::r,y::s,hp,hg,hl,hm=>by
  obtain⟨l1,l2⟩:=cR.1 hl;obtain⟨m1,m2⟩:=cR.1 hm;have hx:x∈y::s:=hp.mem_iff.1 (aW ..);have hy:y∈x::r:=hp.mem_iff.2 (aW ..);have e:x=y:=by
   rcases bA.1 hx with h|h
   ·exact h
   ·rcases bA.1 hy with h'|h'
    ·exact h'.symm
    ·exact LeT.anti (hg x hx) (hg y (aW ..)) (l1 y h') (m1 x h)
  subst e;rw[aBf ((List.perm_cons x).1 hp) (fun z hz=>hg z (aU _ hz)) l2 m2]
theorem aCO {l m:List Tr} (hp:m.Perm l) (hg:∀x∈l,jR x) (hs:m.Pairwise LeT):m=fT l:=
 aBf (hp.trans (jL l).symm) (fun x hx=>hg x ((jL l).mem_iff.1 hx)) hs (mT l)
def LtT (a b:Tr):Prop:=eC a b<0
theorem LtT.trans {a b c:Tr} (h:LtT a b) (h':LtT b c):LtT a c:=by
 unfold LtT eC at*
 rcases(yO _ _ _ (Int.le_of_lt h) (Int.le_of_lt h')).2 with h1|h1
 ·omega
 ·exact h1
theorem sA (t:Tr):eC t t=0:=(gJ _ _).2 rfl
theorem vL (a b:Tr):eC b a= -eC a b:=by unfold eC;rw[xL]
def cfO {n:Nat} (l:List Tr) (hn:l.length=n+1) (i k:Fin (n+1)):Int:=eC (l[i.val]' uAu) (l[k.val]' uAu)
theorem aN8 {n:Nat} (l:List Tr) (hn:l.length=n+1):Go.Sort.SWO (Go.Proofs.ltOf (cfO l hn)):=by
 have hlt:∀x y,Go.Proofs.ltOf (cfO l hn) x y=decide (cfO l hn x y<0):=fun _ _=>rfl
 refine⟨fun x=> ?_,fun x y z h1 h2=> ?_,fun x y z h1 h2=> ?_⟩
 ·rw[hlt,jS]
  unfold cfO;rw[sA];omega
 ·rw[hlt,mO]at*
  exact LtT.trans h1 h2
 ·rw[hlt,jS]at*
  unfold cfO at*
  have h3:LeT (l[y.val]' uAu) (l[x.val]' uAu):=by unfold LeT;rw[vL];omega
  have h4:LeT (l[z.val]' uAu) (l[y.val]' uAu):=by unfold LeT;rw[vL];omega
  have h5:=LeT.trans h4 h3;unfold LeT at h5;rw[vL]at h5;omega
def lL (n:Nat):Array (Fin (n+1)):=Array.ofFn id
theorem jU (n:Nat):(lL n).size=n+1:=by unfold lL;simp
theorem aKH (n:Nat) (i:Nat) (h:i<n+1):(lL n)[i]! =⟨i,h⟩:=by
 rw[getElem!_pos (lL n) i (by rw[jU];exact h)];unfold lL;simp
theorem aFG {n:Nat} (l:List Tr) (hn:l.length=n+1) (hg:∀x∈l,jR x) (d:Array (Fin (n+1))) (hp:Go.Sort.PermIn 0 (n+1) (lL n) d) (hs:Go.Sort.SortedIn (Go.Proofs.ltOf (cfO l hn)) 0 (n+1) d):
  d.toList.map (fun i=>l[i.val]' uAu)=fT l:=by
 obtain⟨h1,_,h3⟩:=hp;rw[jU]at h1;have e1:(d.extract 0 (n+1)).toList=d.toList:=by
  have h:=Array.extract_size (xs:=d);rw[h1]at h;rw[h]
 have e2:((lL n).extract 0 (n+1)).toList=(lL n).toList:=by
  have h:=Array.extract_size (xs:=lL n);rw[jU]at h;rw[h]
 rw[e1,e2]at h3;have e3:(lL n).toList.map (fun i=>l[i.val]' uAu)=l:=by
  apply aAG
  ·rw[aH,bB,jU,hn]
  ·intro i h4 h5
   rw[aH,bB,jU]at h4;have e:(lL n).toList[i]'(by rw[bB,jU];exact h4)=⟨i,h4⟩:=by
    rw[aDy];unfold lL;rw[Array.getElem_ofFn];rfl
   rw[tD];simp only[e]
 refine aCO ((h3.map _).trans (by rw[e3])) hg ?_;rw[iK,eK];intro i j hi hj hij;rw[bB,h1]at hi hj;have h:=hs i j (aQ _) hij hj;rw[getElem!_pos d i uAu,getElem!_pos d j uAu]at h;have h':¬cfO l hn d[j] d[i]<0:=of_decide_eq_false h;unfold cfO at h';rw[vL]at h';unfold LeT;simp only[aDy];omega
def mrg:List Tr->List Tr->List Tr
 |a,[]=>a
 |[],y::b=>y::b
 |x::a,y::b=>if eC x y<=0 then x::mrg a (y::b)else y::mrg (x::a) b
termination_by a b=>a.length+b.length
theorem vN (b:List Tr):mrg [] b=b:=by cases b<;>rw[mrg]
theorem aBz (a:List Tr):mrg a []=a:=by rw[mrg]
theorem aBA {x y:Tr} {a b:List Tr} (h:eC x y<=0):mrg (x::a) (y::b)=x::mrg a (y::b):=by rw[mrg,if_pos h]
theorem aA0 {x y:Tr} {a b:List Tr} (h:¬eC x y<=0):mrg (x::a) (y::b)=y::mrg (x::a) b:=by rw[mrg,if_neg h]
theorem aOC {y:Tr} {b:List Tr}:mrg [] (y::b)=y::mrg [] b:=by rw[vN,vN]
theorem uQ:∀(a b:List Tr),(mrg a b).Perm (a++b)
 |a,[]=>by rw[aBz,mX]
 |[],y::b=>by rw[vN];rfl
 |x::a,y::b=>by
  by_cases h:eC x y<=0
  ·rw[aBA h]
   exact(uQ a (y::b)).cons x
  ·rw[aA0 h]
   exact((uQ (x::a) b).cons y).trans mC.symm
termination_by a b=>a.length+b.length
theorem xM:∀(a b:List Tr),a.Pairwise LeT->b.Pairwise LeT->(mrg a b).Pairwise LeT
 |a,[],ha,_=>by rw[aBz];exact ha
 |[],y::b,_,hb=>by rw[vN];exact hb
 |x::a,y::b,ha,hb=>by
  obtain⟨a1,a2⟩:=cR.1 ha;obtain⟨b1,b2⟩:=cR.1 hb;by_cases h:eC x y<=0
  ·rw[aBA h]
   refine cR.2 ⟨fun z hz=> ?_,xM a (y::b) a2 hb⟩;rcases cP.1 ((uQ a (y::b)).mem_iff.1 hz)with hz|hz
   ·exact a1 z hz
   ·rcases bA.1 hz with rfl|hz
    ·exact h
    ·exact LeT.trans h (b1 z hz)
  ·rw[aA0 h]
   refine cR.2 ⟨fun z hz=> ?_,xM (x::a) b ha b2⟩;have hyx:=aDa h;rcases cP.1 ((uQ (x::a) b).mem_iff.1 hz)with hz|hz
   ·rcases bA.1 hz with rfl|hz
    ·exact hyx
    ·exact hyx.trans (a1 z hz)
   ·exact b1 z hz
termination_by a b=>a.length+b.length
theorem mrg_all (l m:List Tr) (hl:∀x∈l,jR x) (hm:∀x∈m,jR x):mrg (fT l) (fT m)=fT (l++m):=
 aCO ((uQ _ _).trans ((jL l).append (jL m))) (fun x hx=>(cP.1 hx).elim (hl x) (hm x)) (xM _ _ (mT l) (mT m))
open Go.Lib Go.Sort
theorem aJa (l:List Tr):(tN l).flatMap Array.toList=l.map fun a=>Value.string (kB a):=by
 unfold tN
 induction l with
 |nil=>rfl
 |cons a l ih=>rw[cG,cN,ih];rfl
theorem aA3 {B:Nat} {u:Value} {l:List Tr} {W:World} (h:bP B 9 1 u (tN l) W) (h0:0<l.length):∃g o c,u=.slice (some ⟨g,o,none⟩) l.length c/\∀i (hi:i<l.length),W.cell? ⟨g,o+i,none⟩=some (.string (kB l[i])):=by
 have h1:=tL h.lsT;have e:(tN l).length=l.length:=by unfold tN;rw[aH]
 rw[e,aJa]at h1;obtain⟨g,o,c,rfl,_,_,_,h2⟩:=h1.pos h0;exact⟨g,o,c,rfl,fun i hi=>h2 i _ (by rw[List.getElem?_map,List.getElem?_eq_getElem hi];rfl)⟩
theorem aFr {B:Nat} (l:List Tr) (X:Nat) (u:Value) (W:World) (hX:W.heap[X]? =some (.cells #[u] 25 (0,0))) (hu:bP B 9 1 u (tN l) W) (i k:Nat) (hi:i<l.length) (hk:k<l.length) (hl:l.length<=90000):
  Calls Tryz.prog 54 #[.int .i64 (i:Int),.int .i64 (k:Int),.pointer (some ⟨X,0,none⟩)] W fun r w'=>r=.returned (.int .i64 (eC l[i] l[k]))/\∃q,w'=W.drewN q:=by
 obtain⟨g,o,c,rfl,hc⟩:=aA3 hu uAu;have c0:W.cell? ⟨X,0,none⟩=some (.slice (some ⟨g,o,none⟩) l.length c):=aK hX rfl;have c1:=hc i hi;have c2:=hc k hk;obtain⟨ki,hki⟩:∃q,q=kB l[i]:=⟨_,rfl⟩
 obtain⟨kk,hkk⟩:∃q,q=kB l[k]:=⟨_,rfl⟩
 obtain⟨n,hn⟩:∃q,q=eC l[i] l[k]:=⟨_,rfl⟩
 have HO:Hid (∀W,Calls Tryz.prog 40 #[.string ki,.string kk] W fun e w'=>e=.returned (.int .i64 n)/\W=w'):=fun W=>by
  exact Aj8
 rw[<-hn];rw[<-hki]at c1;rw[<-hkk]at c2;obtain⟨N,hN⟩:∃N,N=l.length:=⟨_,rfl⟩
 rw[<-hN]at c0 hi hk hl;have i0:(0:Int)<=(i:Int):=by omega
 have k0:(0:Int)<=(k:Int):=by omega
 have i1:(i:Int)<(N:Int):=by omega
 have k1:(k:Int)<(N:Int):=by omega
 have n1:(N:Int)<=90000:=by omega
 clear hki hkk hn hN hX hu hc hi hk hl;go_enter Tryz.func54,Tryz.ntmps54;go_upto_region 1 with fail
 go_quiet (first|(go_at_call 40;exact lW ((HO.out _).mono fun _ _ h=>⟨h.1,h.2.symm⟩)))
 go_wp2_with fail
 go_ret;exact⟨rfl,_,rfl⟩
theorem aJd {ops:Array Oper} {rest:List Oper} {o:Oper} {a:Act} {Q:Exit->Act->World->Prop} {w:World} (hgd:o.guard=none) (x c:Operand) (hop:o.op=.makeSlice 99 x c)
  (kl kc:IntKind) (n:Nat) (hl:a.eval x=.int kl (n:Int)) (hc:a.eval c=.int kc (n:Int)) (hn:n<=100000)
  (h:∀w' cs,w'.heap[w.heap.size]? =some (.cells cs 3 (0,0))->cs.size=n->Below w.heap.size w w'->wpList Tryz.prog ops Q rest (a.put o.dst (.slice (some ⟨w.heap.size,0,none⟩) n n)) w'):wpList Tryz.prog ops Q (o::rest) a w:=
 cW hgd fun _ hK=>by
  have hrun:=run_make_row' (P:=Tryz.prog) 99 3 (.int .i64 0) 8 Tryz.underlying99 hO rfl kl kc n uAu uAu w;unfold Oper.wp;simp[execOp,hop,hl,hc,hrun,Result.andThen];exact hK _ _ (h _ _ (aF w _) (by simp[madeCells]) (Below.newly' _ _))
abbrev aAL {n:Nat} (i:Fin (n+1)):Value:=.int .i64 (i.val:Int)
theorem aIV {n N B cap g:Nat} {lb:Array Value} (l:List Tr) (hn:l.length=n+1) (hN:N=n+1) (h12:N<=12) (w:World) (eg:∀args w,(callFunc g args).run Tryz.prog w=.ok (.enter g args) w)
  (hH:Holds aAL w B 0 (lL n)) (hlt:B<w.heap.size) (hcmp:CmpLays1 Tryz.prog g lb aAL (cfO l hn) B 0 (lL n).size w):
  Calls Tryz.prog 112 #[.slice (some ⟨B,0,none⟩) N cap,.int .i64 (N:Int),.func (.func g) #[] lb] w fun r w'=>r=.returned (.tuple #[])/\∃d,PermIn 0 (n+1) (lL n) d/\SortedIn (ltOf (cfO l hn)) 0 (n+1) d/\SW aAL w B 0 d w':=by
 have hs:=jU n;have h:=Any.insertionSortCmpFunc_s Tryz.insI aAL (cfO l hn) g lb B 0 cap 0 (n+1) (lL n) (lL n) w w eg hcmp ⟨fun _=>rfl,hH,hlt⟩ rfl (SW.start hH) (aQ _) uAu uAu;have hso:=insertionSort_holds (lt:=ltOf (cfO l hn)) (aN8 l hn) (lL n) 0 (n+1) (aQ _) uAu;rw[hs]at h;have HI:Hid (Calls Tryz.prog 128 #[.slice (some ⟨B,0,none⟩) N cap,.int .i64 0,.int .i64 (N:Int),.func (.func g) #[] lb] w fun r w'=>r=.returned (.tuple #[])/\∃d,PermIn 0 (n+1) (lL n) d/\SortedIn (ltOf (cfO l hn)) 0 (n+1) d/\SW aAL w B 0 d w'):=by
  subst hN;exact h.mono fun _ _ h=>⟨h.1,_,hso.1,hso.2,h.2⟩
 have n20:¬(20:Int)<=(N:Int):=by omega
 have n21:¬(20:Int)<(N:Int):=by omega
 clear h hso hs hcmp hH hN h12;go_enter Tryz.func112,Tryz.ntmps112;go_wp2_with fail
 refine aDu 1 ?_;rw[rounds_succ];go_wp2_with (go_at_call 128;(with_reducible refine(HI.out).mono ?_);rintro r w1 ⟨rfl,d,hp,hd,hw⟩;have HD:=iH (And.intro hp (And.intro hd hw));clear hp hd hw)
 refine aDu 1 ?_;rw[rounds_succ];go_wp2_with fail
 go_end0;exact⟨rfl,d,HD.out⟩
def zP (B N j:Nat) (W:World):Prop:=∃cs,W.heap[B]? =some (.cells cs 3 (0,0))/\cs.size=N/\∀q,q<j->cs[q]? =some (.int .i64 (q:Int))
theorem aH0:(Tryz.prog.info? 3).map (·.size)=some 1:=by kernel_rfl
theorem zP.put {B N j:Nat} {W:World} {cs:Array Value} (hc2:cs.size=N) (hc3:∀q,q<j->cs[q]? =some (.int .i64 (q:Int))) (hj:j<N) (h:W.heap[B]? =some (.cells (cs.setIfInBounds j (.int .i64 (j:Int))) 3 (0,0))):zP B N (j+1) W:=by
 refine⟨_,h,by rw[zS];exact hc2,fun q hq=> ?_⟩;rcases cZ q j with h1|h1
 ·rw[Array.getElem?_setIfInBounds_ne uAu]
  exact hc3 q h1
 ·obtain rfl:q=j:=by omega
  rw[Array.getElem?_setIfInBounds_self_of_lt (by rw[hc2];exact hj)]
theorem zP.holds {B n:Nat} {W:World} (h:zP B (n+1) (n+1) W):Holds aAL W B 0 (lL n):=by
 obtain⟨cs,h1,h2,h3⟩:=h;intro j hj;rw[jU]at hj;rw[aKH n j hj,dL];exact⟨aK h1 (h3 j hj),by unfold World.frozen?;simp[h1]⟩
theorem aKP (B g:Nat) (lb:Array Value) (w:World):Calls Tryz.prog 87 #[.slice (some ⟨B,0,none⟩) 0 0,.func (.func g) #[] lb] w fun r w'=>r=.returned (.tuple #[])/\w'=w:=by
 have H1:Hid (∀W,Calls Tryz.prog 128 #[.slice (some ⟨B,0,none⟩) 0 0,.int .i64 0,.int .i64 0,.func (.func g) #[] lb] W fun r w'=>r=.returned (.tuple #[])/\W=w'):=fun W=>by
  go_enter Tryz.func128,Tryz.ntmps128;go_wp2_with fail
  exact Ai9
 have H2:Hid (∀W,Calls Tryz.prog 112 #[.slice (some ⟨B,0,none⟩) 0 0,.int .i64 0,.func (.func g) #[] lb] W fun r w'=>r=.returned (.tuple #[])/\W=w'):=fun W=>by
  go_enter Tryz.func112,Tryz.ntmps112;go_wp2_with fail
  refine aDu 1 ?_;rw[rounds_succ];go_wp2_with (go_at_call 128;(with_reducible refine(H1.out _).mono ?_);rintro r w1 ⟨rfl,rfl⟩)
  exact Ai9
 go_enter Tryz.func87,Tryz.ntmps87;go_wp2_with (go_at_call 112;(with_reducible refine(H2.out _).mono ?_);rintro r w1 ⟨rfl,rfl⟩)
 go_end0;exact⟨rfl,rfl⟩
theorem aKO (l:List Tr) (N B X:Nat) (w w0:World) (hN:N=l.length) (h12:N<=12) (hgd:∀x∈l,jR x) (hw:Below w.heap.size w w0) (hB:w.heap.size<=B) (hP:zP B N N w0)
  (hcl:∀W,Below w.heap.size w W->∀(i k:Nat) (hi:i<l.length) (hk:k<l.length),Calls Tryz.prog 54 #[.int .i64 (i:Int),.int .i64 (k:Int),.pointer (some ⟨X,0,none⟩)] W fun r w'=>r=.returned (.int .i64 (eC l[i] l[k]))/\∃q,w'=W.drewN q):
  Calls Tryz.prog 87 #[.slice (some ⟨B,0,none⟩) N N,.func (.func 54) #[] #[.pointer (some ⟨X,0,none⟩)]] w0 fun r w'=>r=.returned (.tuple #[])/\∃ps:List Nat,ps.length=N/\(∀q (h:q<ps.length),ps[q]<N/\w'.cell? ⟨B,q,none⟩=some (.int .i64 (ps[q]:Int)))/\(ps.map fun q=>l.getD q iE)=fT l/\Below w.heap.size w w':=by
 by_cases hz:N=0
 ·subst hz
  refine(aKP B _ _ w0).mono ?_;rintro r w' ⟨h1,rfl⟩;obtain rfl:=aT hN.symm;exact⟨h1,[],rfl,fun q h=>absurd h (dD _),rfl,hw⟩
 ·obtain⟨n,hs⟩:∃n,N=n+1:=⟨N-1,by omega⟩
  have hn:l.length=n+1:=by omega
  have hH:Holds aAL w0 B 0 (lL n):=by rw[hs]at hP;exact hP.holds
  have hlt:B<w0.heap.size:=by obtain⟨cs,h1,_⟩:=hP;exact(gZ h1)
  have hcmp:CmpLays1 Tryz.prog 54 #[.pointer (some ⟨X,0,none⟩)] aAL (cfO l hn) B 0 (lL n).size w0:=fun m os dk _ x y=>by
   have hb:Below w.heap.size w (sortWorld aAL w0 B 0 m dk os):=hw.trans ((aBb aAL w0 B 0 m dk os hw.size hB));refine(hcl _ hb x.val y.val uAu uAu).mono ?_;rintro e W' ⟨h1,q,rfl⟩;exact⟨h1,q,#[],(grow_empty _).symm⟩
  have h:=aIV l hn hs h12 w0 (lX Tryz.func54 hO rfl) (cap:=N) hH hlt hcmp;have HS:=iH h;have HFI:Hid (∀d w',PermIn 0 (n+1) (lL n) d/\SortedIn (ltOf (cfO l hn)) 0 (n+1) d/\SW aAL w0 B 0 d w'->∃ps:List Nat,ps.length=N/\(∀q (h:q<ps.length),ps[q]<N/\w'.cell? ⟨B,q,none⟩=some (.int .i64 (ps[q]:Int)))/\(ps.map fun q=>l.getD q iE)=fT l/\Below w.heap.size w w'):=fun d w' ⟨h1,h2,h3⟩=>by
   have hsz:d.size=n+1:=h1.1.trans (jU n);refine⟨d.toList.map (·.val),by rw[aH,bB,hsz,hs],fun q h=> ?_,?_,?_⟩
   ·rw[aH,bB]at h
    have hc:=h3.c1 ⟨fun _=>rfl,hH,hlt⟩ (by rw[hsz,jU]) q h;rw[dL,getElem!_pos d q h]at hc;rw[tD,aDy];exact⟨by have:=d[q].isLt;omega,hc⟩
   ·rw[kC,<-aFG l hn hgd d h1 h2]
    apply jX;intro i _;simp only[Function.comp];exact Ak3
   ·obtain⟨m,os,rfl⟩:=h3
    exact hw.trans (aBb aAL w0 B 0 m d os hw.size hB)
  clear h hcmp hH hlt hcl hP hw hz hs hN h12;go_enter Tryz.func87,Tryz.ntmps87;go_wp2_with (go_at_call 112;(with_reducible refine(HS.out).mono ?_);rintro r w1 ⟨rfl,d,hd⟩;have HD:=iH hd;clear hd)
  go_end0;exact⟨rfl,HFI.out d _ HD.out⟩
theorem aHG (l:List Tr) (v:Value) (w:World) (X:Nat) (hv:lU (fun _=>True) w v l) (hlen:l.length<=12) (hgd:∀x∈l,jR x)
  (hcl:∀W,Below w.heap.size w W->∀(i k:Nat) (hi:i<l.length) (hk:k<l.length),Calls Tryz.prog 54 #[.int .i64 (i:Int),.int .i64 (k:Int),.pointer (some ⟨X,0,none⟩)] W fun r w'=>r=.returned (.int .i64 (eC l[i] l[k]))/\∃q,w'=W.drewN q):
  Calls Tryz.prog 53 #[v,.func (.func 54) #[] #[.pointer (some ⟨X,0,none⟩)]] w fun r w'=>∃u,r=.returned u/\gV w.heap.size (fun g=>g<w.heap.size) w' u (fT l)/\Below w.heap.size w w':=by
 obtain⟨ad,cap,b,oo,rfl,hmax,ha,hr⟩:=hv;obtain⟨N,hN⟩:∃N,N=l.length:=⟨_,rfl⟩
 rw[<-hN];have hn4:(N:Int)<=12:=by omega
 have HNL:Hid (N=l.length/\N<=12):=⟨hN,by omega⟩
 have HA:=iH ha;have HR:=iH hr;have HGD:=iH hgd;have HCL:=iH hcl;clear hN hr ha hmax hlen hgd hcl;go_enter Tryz.func53,Tryz.ntmps53;go_wp2_with (refine aJd rfl _ _ rfl .i64 .i64 N rfl rfl uIx ?_;intro w3 cs3 h3 hs3 hb3;have HP3:Hid (zP w.heap.size N 0 w3):=⟨cs3,h3,hs3,fun q h=>absurd h (dD _)⟩;have HB3:=iH hb3;clear h3 hs3 hb3)
 obtain⟨B,hB⟩:∃B,B=w.heap.size:=⟨_,rfl⟩
 rw[<-hB]at HP3 ⊢;have HBE:=iH hB;clear hB;go_loopw [15] (fun i W=>∃j:Nat,j<=N/\i=.int .i64 (j:Int)/\Hid (zP B N j W)/\Hid (Below w.heap.size w W)) (fun i _=>N-(intOf i).toNat)
 case atStart=>exact⟨0,aQ _,rfl,HP3.out,HB3.out⟩
 case round=>
  clear HP3 HB3
  rename World=>wo
  obtain⟨j,hj,rfl,HP,HW⟩:=hrel;by_cases hlt:j<N
  case pos=>
   have hlt':(j:Int)<(N:Int):=by omega
   have i0:(0:Int)<=(j:Int):=by omega
   obtain⟨cs,hc1,hc2,hc3⟩:=HP.out;have HC:=iH hc1;have HC2:=iH hc2;have HC3:=iH hc3;have HLT:=iH hlt;clear hlt hc1 hc2 hc3 HP;go_wp2_with (refine qZ rfl 3 _ _ rfl B j (.int .i64 (j:Int)) rfl rfl rfl 3 cs HC.out aH0 (by have:=HC2.out;have:=HLT.out;omega) ?_;intro w9 h9 k9;have HP9:Hid (zP B N (j+1) w9):=zP.put HC2.out HC3.out HLT.out h9;have HB9:=iH (HW.out.trans (k9.below (by rw[HBE.out];exact aE _)));clear h9 k9)
   go_roundw
   case rel=>exact⟨j+1,by have:=HLT.out;omega,by go_num,HP9.out,HB9.out⟩
   case measure=>have:=HLT.out;simp[intOf];omega
  obtain rfl:j=N:=by omega
  clear hj hlt;have HST:=iH (aKO l j B X w wo HNL.out.1 HNL.out.2 HGD.out HW.out (by rw[HBE.out];exact aE _) HP.out HCL.out);clear HP HCL HW HGD;go_upto_region 8 with(go_at_call 87;(with_reducible refine(HST.out).mono ?_);rintro r w1 ⟨rfl,ps,p1,p2,p3,hb⟩;have HPS:=iH (And.intro p1 (And.intro p2 p3));have HB1:=iH hb;clear p1 p2 p3 hb)
  go_wp2_with (refine aBi (B:=w1.heap.size) (by_:=40) (z:=(.agg #[.int .i64 0,.int .i64 0,.string ⟨#[]⟩,.pointer none])) rfl 52 35 _ _ rfl Tryz.underlying52 pT .i64 .i64 _ j rfl rfl rfl uIx uAv (aE _) ?_;intro w3 h3 hb3;have HV3:Hid (gV w1.heap.size (fun g=>g<w.heap.size) w3 (.slice (some ⟨w1.heap.size,0,none⟩) 0 j) []):=gV.none h3;have HB3:=iH hb3;clear h3 hb3)
  go_loopw [7,31] (fun a7 i W=>∃(k:Nat) (iv:Value),k<=j/\i=.int .i64 (k:Int)/\iv=a7/\Hid (gV w1.heap.size (fun g=>g<w.heap.size) W iv ((fT l).take k))/\Hid (Below w1.heap.size w1 W)) (fun _ i _=>j-(intOf i).toNat)
  case atStart=>exact⟨0,_,aQ _,rfl,rfl,HV3.out,HB3.out⟩
  case round=>
   clear HV3 HB3;obtain⟨k,iv,hk,rfl,rfl,HV,HW⟩:=hrel;by_cases hlt:k<j
   case neg=>
    obtain rfl:k=j:=by omega
    have hfin:=HV.out;rw[aZ (by rw[qD,<-HNL.out.1];exact aE _)]at hfin;have HFIN:=iH (hfin.low HB1.out.size);clear hfin;go_wp2_with fail
    go_ret;exact⟨_,rfl,HFIN.out,tW HB1.out HW.out⟩
   have hlt':(k:Int)<(j:Int):=by omega
   have i0:(0:Int)<=(k:Int):=by omega
   have hkp:k<ps.length:=by rw[HPS.out.1];exact hlt
   have hB1:B<w1.heap.size:=aM w1 _ (HPS.out.2.1 k hkp).2;have c1:wr.cell? ⟨B,k,none⟩=some (.int .i64 (ps[k]:Int)):=(HW.out.cell (p:=⟨B,k,none⟩) hB1).trans (HPS.out.2.1 k hkp).2;have hpl:=(HPS.out.2.1 k hkp).1;have hks:k<(fT l).length:=by rw[qD,<-HNL.out.1];exact hlt
   have hel:(fT l)[k]=l.getD ps[k] iE:=by
    have h:=HPS.out.2.2;have h2:(ps.map fun q=>l.getD q iE)[k]? =(fT l)[k]? :=by rw[h]
    rw[List.getElem?_map,List.getElem?_eq_getElem hkp,List.getElem?_eq_getElem hks]at h2;exact(aN h2).symm
   have hnx:(fT l).take (k+1)=(fT l).take k++[l.getD ps[k] iE]:=by rw[aS hks,hel]
   obtain⟨p,hp⟩:∃p,p=ps[k]:=⟨_,rfl⟩
   rw[<-hp]at c1 hpl hnx;have hplL:p<l.length:=by rw[<-HNL.out.1];exact hpl
   rw[List.getD_eq_getElem?_getD,List.getElem?_eq_getElem hplL,tB]at hnx;obtain rfl:=HA.out uAu;obtain⟨y,hy0,hy1,hrg⟩:=HR.out p hplL;have hwW:Below w.heap.size w wr:=tW HB1.out HW.out;have HRG:=iH (dB hrg hwW);have HY0:=iH hy0;have HY1:Hid (VAt (fun g=>g<w.heap.size) wr l[p] y):=(hy1.old.weak (S':=fun g=>g<w.heap.size) fun _ h=>h.2).low hwW;obtain⟨x,hx⟩:∃x,x=l[p]:=⟨_,rfl⟩
   rw[<-hx]at HY0 HY1 hnx;have HNX:=iH hnx;have HTL:Hid (((fT l).take k).length<=50000):=by show _<=_;rw[aV];have:=HNL.out;omega
   have p0:(0:Int)<=(p:Int):=by omega
   have p1:(p:Int)<(j:Int):=by omega
   have HLT:=iH hlt;clear hlt hkp hB1 hpl hks hel hp hplL hy0 hy1 hrg hwW hx hnx;go_wp2_with (first
    |(refine oU uAz _ rfl b (oo+p*4) rfl (aX y) HRG.out rfl ?_)
    |(refine nK rfl 52 35 _ rfl (aX y) 4 (.agg #[.int .i64 0,.int .i64 0,.string ⟨#[]⟩,.pointer none]) rfl rfl uAv uAv Tryz.underlying52 pS ?_;intro wl hl hbl hzl;have HL:=iH hl;have HVL:=iH (HV.out.later hbl);have HYL:=iH (HY1.out.later hbl);have HWL:=iH (tW HW.out hbl);clear hl hbl hzl)
    |(refine yD rfl _ _ rfl rfl HVL.out (by intro g hg;have:=HB1.out.size;omega) HWL.out.size HTL.out wr.heap.size _ rfl HL.out HY0.out HYL.out ?_;intro v9 w9 hv9 hb9 _ _;have HV9:=iH hv9;have HB9:=iH (HWL.out.trans (hb9.mono (aE _)));clear hv9 hb9))
   go_roundw
   case rel=>exact⟨k+1,_,by have:=HLT.out;omega,by go_num,rfl,by rw[HNX.out];exact HV9.out,HB9.out⟩
   case measure=>have:=HLT.out;simp[intOf];omega
theorem aMJ (l:List Tr) (v:Value) (w:World) (hv:lU (fun _=>True) w v l) (hlen:l.length<=12) (hvb:∀x∈l,dW x) (hT:fW w):
  Calls Tryz.prog 23 #[v] w fun r w'=>∃u,r=.returned u/\gV w.heap.size (fun g=>g<w'.heap.size) w' u (fT l)/\lU (fun _=>True) w' v l/\Below w.heap.size w w':=by
 have HKO:=iH (vM l v w hv uAu hT);have HV:=iH hv;have HGD:Hid (∀x∈l,jR x):=fun x hx=>(hvb x hx).1.1
 have HLN:=iH hlen;clear hv hvb hT hlen;go_enter Tryz.func23,Tryz.ntmps23;go_upto_region 2 with(go_at_call 52;(with_reducible refine(HKO.out).mono ?_);rintro r w1 ⟨u,rfl,hu,hb⟩;obtain⟨ua,uc,rfl⟩:=hu.shape';have HU:=iH hu;have HB:=iH hb;clear hu hb)
 obtain⟨u,hu⟩:∃u,u=Value.slice ua (tN l).length uc:=⟨_,rfl⟩
 rw[<-hu]at HU ⊢;obtain⟨X,hX⟩:∃X,X=w1.heap.size:=⟨_,rfl⟩
 obtain⟨w2,hw2⟩:∃w2,w2=w1.alloc (.cells #[u] 25):=⟨_,rfl⟩
 have hb2:Below w1.heap.size w1 w2:=by rw[hw2];exact Below.newly' _ _
 have hx2:w2.heap[X]? =some (.cells #[u] 25 (0,0)):=by rw[hw2,hX];exact aF _ _
 have hbw:Below w.heap.size w w2:=tW HB.out hb2;have hu2:=HU.out.later hb2;have HLA:=iH (aHG l v w2 X (HV.out.later hbw) HLN.out HGD.out (fun W hW i k hi hk=>aFr l X u W (kW hW hx2) (hu2.later hW) i k hi hk uIv));have HB2:=iH hbw;rw[<-hw2,<-hX];clear hw2 hX hb2 hx2 hbw hu2 HU hu HKO HB;go_wp2_with (go_at_call 53;(with_reducible refine(HLA.out).mono ?_);rintro r w3 ⟨y,rfl,hy,hb⟩;have HY:=iH hy;have HB3:=iH hb;clear hy hb)
 go_ret;have hbb:=tW HB2.out HB3.out;exact⟨_,rfl,(HY.out.low HB2.out.size).weak fun g hg=>cQ hg HB3.out.size,HV.out.later hbb,hbb⟩
theorem aIY {B B':Nat} (l m:List Tr) (X Y:Nat) (u v:Value) (W:World) (hX:W.heap[X]? =some (.cells #[u] 25 (0,0))) (hY:W.heap[Y]? =some (.cells #[v] 25 (0,0))) (hu:bP B 9 1 u (tN l) W) (hv:bP B' 9 1 v (tN m) W) (i k:Nat) (hi:i<l.length) (hk:k<m.length) (hl:l.length<=90000) (hm:m.length<=90000):
  Calls Tryz.prog 59 #[.int .i64 (i:Int),.int .i64 (k:Int),.pointer (some ⟨X,0,none⟩),.pointer (some ⟨Y,0,none⟩)] W fun r w'=>r=.returned (.bool (decide (eC l[i] m[k]<=0)))/\∃q,w'=W.drewN q:=by
 obtain⟨g,o,c,rfl,hc⟩:=aA3 hu uAu;obtain⟨g',o',c',rfl,hc'⟩:=aA3 hv uAu;have c0:W.cell? ⟨X,0,none⟩=some (.slice (some ⟨g,o,none⟩) l.length c):=aK hX rfl;have c0':W.cell? ⟨Y,0,none⟩=some (.slice (some ⟨g',o',none⟩) m.length c'):=aK hY rfl;have c1:=hc i hi;have c2:=hc' k hk;obtain⟨ki,hki⟩:∃q,q=kB l[i]:=⟨_,rfl⟩
 obtain⟨kk,hkk⟩:∃q,q=kB m[k]:=⟨_,rfl⟩
 obtain⟨n,hn⟩:∃q,q=eC l[i] m[k]:=⟨_,rfl⟩
 have HO:Hid (∀W,Calls Tryz.prog 40 #[.string ki,.string kk] W fun e w'=>e=.returned (.int .i64 n)/\W=w'):=fun W=>by
  exact Aj8
 rw[<-hn];rw[<-hki]at c1;rw[<-hkk]at c2;obtain⟨N,hN⟩:∃N,N=l.length:=⟨_,rfl⟩
 obtain⟨M,hM⟩:∃M,M=m.length:=⟨_,rfl⟩
 rw[<-hN]at c0 hi hl;rw[<-hM]at c0' hk hm;have i0:(0:Int)<=(i:Int):=by omega
 have k0:(0:Int)<=(k:Int):=by omega
 have i1:(i:Int)<(N:Int):=by omega
 have k1:(k:Int)<(M:Int):=by omega
 have n1:(N:Int)<=90000:=by omega
 have m1:(M:Int)<=90000:=by omega
 clear hki hkk hn hN hM hX hY hu hv hc hc' hi hk hl hm;go_enter Tryz.func59,Tryz.ntmps59;go_upto_region 1 with fail
 go_quiet (first|(go_at_call 40;exact lW ((HO.out _).mono fun _ _ h=>⟨h.1,h.2.symm⟩)))
 go_wp2_with fail
 go_ret;exact⟨rfl,_,rfl⟩
theorem aJL (w:World):(sizeOf (Tryz.prog.elem 52)).run Tryz.prog w=.ok 4 w:=by kernel_rfl
theorem aIl:Tryz.prog.underlying 52=some (.slice (Tryz.prog.elem 52)):=by kernel_rfl
theorem lU.rows {S:Nat->Prop} {w:World} {v:Value} {l:List Tr} (h:lU S w v l):∃ys:List Cel,ys.length=l.length/\bZ (fun _=>True) w 4 v ((ys.map aX).flatMap Array.toList) l.length/\∀j (h:j<l.length) (h':j<ys.length),dW l[j]/\VAt S w l[j] ys[j]:=by
 obtain⟨a,c,b,o,rfl,⟨hm,hc,hd⟩,ha,hr⟩:=h;have hx:∃ys:List Cel,ys.length=l.length/\∀j (h:j<l.length) (h':j<ys.length),(dW l[j]/\VAt S w l[j] ys[j])/\w.rangeAt b (o+j*4) (aX ys[j]).toList:=by
  have hn:∀n,n<=l.length->∃ys:List Cel,ys.length=n/\∀j (h:j<n) (h':j<ys.length) (h2:j<l.length),(dW l[j]/\VAt S w l[j] ys[j])/\w.rangeAt b (o+j*4) (aX ys[j]).toList:=by
   intro n;induction n with
   |zero=>exact fun _=>⟨[],rfl,fun j h=>absurd h (dD _)⟩
   |succ n ih=>
    intro hn;obtain⟨ys,e,h⟩:=ih uAu;obtain⟨y,q0,q1,q2⟩:=hr n uAu;refine⟨ys++[y],by rw[aD,e];rfl,fun j h1 h2 h3=> ?_⟩;rcases cZ j n with hj|hj
    ·rw[dK uAu]
     exact h j hj uAu h3
    ·obtain rfl:j=n:=by omega
     have e2:(ys++[y])[j]=y:=by
      rw[dH uAu];simp
     rw[e2];exact⟨⟨q0,q1⟩,q2⟩
  obtain⟨ys,e,h⟩:=hn _ (aE _);exact⟨ys,e,fun j h1 h2=>h j h1 h2 h1⟩
 obtain⟨ys,e,hy⟩:=hx;have h4:∀c∈ys.map aX,c.size=4:=fun c hc=>by obtain⟨y,_,rfl⟩:=cH.1 hc;rfl
 have hfl:((ys.map aX).flatMap Array.toList).length=l.length*4:=by rw[sG 4 _ h4,aH,e]
 refine⟨ys,e,?_,fun j h1 h2=>(hy j h1 h2).1⟩;refine⟨a,c,rfl,hc,hfl,hd.imp_right fun hd=>⟨b,o,hd.1,trivial,hd.2,fun j u hu=> ?_⟩⟩;have hj:j<l.length*4:=by rw[<-hfl];exact(List.getElem?_eq_some_iff.1 hu).1
 have hq:j/4<ys.length:=by omega
 have h1:=sH 4 (ys.map aX) (j/4) (j % 4) (aX ys[j/4]) h4 (by rw[List.getElem?_map,List.getElem?_eq_getElem hq];rfl) uAu;rw[show j/4*4+j % 4=j by omega,hu]at h1;have h2:=(hy (j/4) uAu hq).2 (j % 4) u (by rw[Array.getElem?_toList];exact h1.symm);rw[show o+j/4*4+j % 4=o+j by omega]at h2;exact h2
def MgS (A B:List Tr) (i k:Nat) (out:List Tr):Prop:=out++mrg (A.drop i) (B.drop k)=mrg A B/\out.length=i+k/\i<=A.length/\k<=B.length
theorem MgS.left {A B:List Tr} {i k:Nat} {out:List Tr} (h:MgS A B i k out) (hi:i<A.length) (hk:k<B.length) (ho:eC A[i] B[k]<=0):MgS A B (i+1) k (out++[A[i]]):=by
 obtain⟨h1,h2,h3,h4⟩:=h;refine⟨?_,by rw[aD,bM];omega,by omega,h4⟩;rw[<-h1,dZ hi,dZ hk,aBA ho,bN];rfl
theorem MgS.right {A B:List Tr} {i k:Nat} {out:List Tr} (h:MgS A B i k out) (hk:k<B.length) (ho:∀hi:i<A.length,¬eC A[i] B[k]<=0):MgS A B i (k+1) (out++[B[k]]):=by
 obtain⟨h1,h2,h3,h4⟩:=h;refine⟨?_,by rw[aD,bM];omega,h3,by omega⟩;rw[<-h1,dZ hk,bN];by_cases hi:i<A.length
 ·rw[dZ hi,aA0 (ho hi)]
  rfl
 ·rw[eD uAu,vN,vN]
  rfl
theorem MgS.fin {A B:List Tr} {i:Nat} {out:List Tr} (h:MgS A B i B.length out):out++A.drop i=mrg A B:=by
 have h1:=h.1;rw[aAH,aBz]at h1;exact h1
theorem aAv (n:Nat) (W:World) (q:Nat):Below n W (W.drewN q):=⟨rfl,rfl,rfl,aE _,fun _ _=>rfl⟩
theorem aGx {ops:Array Oper} {rest:List Oper} {o:Oper} {a:Act} {Q:Exit->Act->World->Prop} {W:World} (hgd:o.guard=none) (p q:Operand)
  (ho:o.op=.call {callee:=.builtin .append,args:=#[p,q],argTypes:=#[52,52]}) {n0:Nat} {S:Nat->Prop} {v vr:Value} {L M:List Tr} {zs:List Cel} (hs:a.eval p=v) (hv:gV n0 S W v L) (hS:∀g,S g->g<n0) (hn:n0<=W.heap.size) (hlen:L.length+M.length<=50000)
  {n:Nat} (hq:a.eval q=vr) (hz:zs.length=M.length) (hnM:n=M.length) (hc:bZ (fun _=>True) W 4 vr ((zs.map aX).flatMap Array.toList) n) (hm:∀j (h:j<M.length) (h':j<zs.length),dW M[j]/\VAt S W M[j] zs[j])
  (h:∀v' w',gV n0 S w' v' (L++M)->Below n0 W w'->wpList Tryz.prog ops Q rest (a.put o.dst v') w'):wpList Tryz.prog ops Q (o::rest) a W:=
 cW hgd fun _ hK=>by
  obtain⟨ys,h1,h2,h3,h4⟩:=hv;refine jN 52 35 p q ho (by_:=40) (z:=(.agg #[.int .i64 0,.int .i64 0,.string ⟨#[]⟩,.pointer none])) (ds:=zs.map aX) hs h2 hq hc ⟨by rw[aH,hz,hnM],fun c hc=>by obtain⟨y,_,rfl⟩:=cH.1 hc;rfl⟩ (aBx fun c hc=>by obtain⟨y,_,rfl⟩:=cH.1 hc;exact eU y) Tryz.underlying52 pT rfl uAv (by rw[aH,aH];omega) uAv ?_;intro v' w' r1 r2;have hb:Below n0 W w':=rZ h2.own r2 (aE _) hn;have hlow:∀(t:Tr) (c:Cel),VAt S W t c->VAt S w' t c:=fun t c ht=>ht.kq (Kq.low hb hS)
  refine hK _ _ (h v' w' ⟨ys++zs,by rw[aD,aD,h1,hz],by rw[bQ];exact r1,by rw[aD];omega,fun j q1 q2=> ?_⟩ hb);rw[aD]at q1 q2;rcases cZ j L.length with hj|hj
  ·rw[dK hj,dK uAu]
   exact⟨(h4 j hj uAu).1,hlow _ _ (h4 j hj uAu).2⟩
  ·have e:j-L.length=j-ys.length:=by rw[h1]
   rw[dH hj,dH uAu];have h5:=hm (j-L.length) uAu uAu;refine⟨h5.1,?_⟩;have h6:=hlow _ _ h5.2;simpa only[e]using h6
theorem aIX (A B:List Tr) (va vb:Value) (w:World) (X Y:Nat) (hva:lU (fun _=>True) w va A) (hvb:lU (fun _=>True) w vb B) (hA:A.length<=20000) (hB:B.length<=20000)
  (hcl:∀W,Below w.heap.size w W->∀(i k:Nat) (hi:i<A.length) (hk:k<B.length),Calls Tryz.prog 59 #[.int .i64 (i:Int),.int .i64 (k:Int),.pointer (some ⟨X,0,none⟩),.pointer (some ⟨Y,0,none⟩)] W fun r w'=>r=.returned (.bool (decide (eC A[i] B[k]<=0)))/\∃q,w'=W.drewN q):
  Calls Tryz.prog 58 #[va,vb,.func (.func 59) #[] #[.pointer (some ⟨X,0,none⟩),.pointer (some ⟨Y,0,none⟩)]] w fun r w'=>∃u,r=.returned u/\gV w.heap.size (fun g=>g<w.heap.size) w' u (mrg A B)/\Below w.heap.size w w':=by
 obtain⟨xs,hxl,hxc,hxv⟩:=hva.rows;obtain⟨ad,cap,b,oo,rfl,hmax,ha,hr⟩:=hva;obtain⟨ad',cap',b',oo',rfl,hmax',ha',hr'⟩:=hvb;obtain⟨N,hN⟩:∃N,N=A.length:=⟨_,rfl⟩
 obtain⟨M,hM⟩:∃M,M=B.length:=⟨_,rfl⟩
 rw[<-hN]at hxc;rw[<-hN,<-hM];have hn4:(N:Int)<=20000:=by omega
 have hm4:(M:Int)<=20000:=by omega
 have HNM:Hid (N=A.length/\M=B.length/\N<=20000/\M<=20000):=⟨hN,hM,by omega,by omega⟩
 have HXS:=iH (And.intro hxl (And.intro hxc hxv));have HA:=iH ha;have HR:=iH hr;have HA':=iH ha';have HR':=iH hr';have HCL:=iH hcl;have hsum:IntKind.i64.wrap ((N:Int)+(M:Int))=((N+M:Nat):Int):=by rw[gE]<;>omega
 clear hN hM ha hr ha' hr' hxl hxc hxv hcl hmax hmax' hA hB;go_enter Tryz.func58,Tryz.ntmps58;go_wp2_with (refine aBi (B:=w.heap.size) (by_:=40) (z:=(.agg #[.int .i64 0,.int .i64 0,.string ⟨#[]⟩,.pointer none])) rfl 52 35 _ _ rfl Tryz.underlying52 pT .i64 .i64 _ (N+M) rfl rfl uAu (by have:=HNM.out;omega) uAv (aE _) ?_;intro w3 h3 hb3;have HV3:Hid (gV w.heap.size (fun g=>g<w.heap.size) w3 (.slice (some ⟨w.heap.size,0,none⟩) 0 (N+M)) []):=gV.none h3;have HB3:=iH hb3;clear h3 hb3)
 clear hsum;have HMG3:Hid (MgS A B 0 0 []):=⟨rfl,rfl,aQ _,aQ _⟩
 go_loopw [7,8,19] (fun a7 a8 a19 W=>∃(i k:Nat) (iv:Value) (out:List Tr),i<=N/\k<=M/\a8=.int .i64 (i:Int)/\a19=.int .i64 (k:Int)/\iv=a7/\Hid (MgS A B i k out)/\Hid (gV w.heap.size (fun g=>g<w.heap.size) W iv out)/\Hid (Below w.heap.size w W)) (fun _ _ a19 _=>M-(intOf a19).toNat)
 case atStart=>exact⟨0,0,_,[],aQ _,aQ _,rfl,rfl,rfl,HMG3,HV3,HB3⟩
 case round=>
  clear HMG3 HV3 HB3
  rename World=>wo
  obtain⟨i,k,iv,out,hi,hk,rfl,rfl,rfl,HMG,HV,HW⟩:=hrel;by_cases hlt:k<M
  case neg=>
   obtain rfl:k=M:=by omega
   have hi':i<=A.length:=by rw[<-HNM.out.1];exact hi
   have hxr:=HXS.out.2.1;obtain⟨a3,c3,hi3,hi3r⟩:=uW 52 (P:=Tryz.prog) aIl aJL hxr hi;have h4:∀c∈xs.map aX,c.size=4:=fun c hc=>by obtain⟨y,_,rfl⟩:=cH.1 hc;rfl
   rw[qJ 4 _ i h4,<-pK]at hi3;have HCT:=iH (fun W (hb:Below w.heap.size w W)=>hi3.later hb);have HZV:Hid (∀W,Below w.heap.size w W->∀j (h:j<(A.drop i).length) (h':j<(xs.drop i).length),dW (A.drop i)[j]/\VAt (fun g=>g<w.heap.size) W (A.drop i)[j] (xs.drop i)[j]):=fun W hb j h h'=>by
    rw[nN,nN];rw[bS]at h h';have h5:=HXS.out.2.2 (i+j) uAu uAu;exact⟨h5.1,(h5.2.old.weak (S':=fun g=>g<w.heap.size) fun _ h=>h.2).low hb⟩
   have HFI:=iH (HMG.out);have hfi:MgS A B i B.length out:=by have h:=HMG.out;rwa[HNM.out.2.1]at h
   have HFN:=iH hfi.fin;have HOL:Hid (out.length+(A.drop i).length<=50000):=by show _<=_;rw[bS,HMG.out.2.1];have:=HNM.out;omega
   have HZL:Hid ((xs.drop i).length=(A.drop i).length):=by show _=_;rw[bS,bS,HXS.out.1]
   have HZN:Hid (N-i=(A.drop i).length):=by show _=_;rw[bS,HNM.out.1]
   clear hi3 h4 hfi hxr hi';go_wp2_with (refine aGx rfl _ _ rfl rfl HV.out (fun g hg=>hg) HW.out.size HOL.out rfl HZL.out HZN.out (HCT.out _ HW.out) (HZV.out _ HW.out) ?_;intro v9 w9 hv9 hb9;have HV9:=iH hv9;have HB9:=iH (HW.out.trans (hb9.mono (aE _)));clear hv9 hb9)
   go_ret;exact⟨_,rfl,by rw[<-HFN.out];exact HV9.out,HB9.out⟩
  have hlt':(k:Int)<(M:Int):=by omega
  have k0:(0:Int)<=(k:Int):=by omega
  have hkB:k<B.length:=by rw[<-HNM.out.2.1];exact hlt
  obtain rfl:=HA'.out uAu;obtain⟨z,hz0,hz1,hrg⟩:=HR'.out k hkB;have HRG:=iH (dB hrg HW.out);have HZ0:=iH hz0;have HZ1:Hid (∀W,Below w.heap.size w W->VAt (fun g=>g<w.heap.size) W B[k] z):=fun W hb=>(hz1.old.weak (S':=fun g=>g<w.heap.size) fun _ h=>h.2).low hb
  have HLT:=iH hlt;have HKB:=iH hkB;clear hz0 hz1 hrg hlt;go_upto_region 6 with(first
   |(refine oU uAz _ rfl b' (oo'+k*4) rfl (aX z) HRG.out rfl ?_)
   |(refine bV rfl 35 _ _ rfl wo.heap.size (aX z) rfl rfl 35 #[.int .i64 0,.int .i64 0,.string ⟨#[]⟩,.pointer none] (aF _ _) aR rfl (eU z) ?_;intro w8 h8 k8))
  have hb8:Below wo.heap.size wo w8:=(Below.newly' _ _).trans (k8.below (aE _));have hb8w:=tW HW.out hb8;obtain⟨Q,hQ⟩:∃Q,Q=wo.heap.size:=⟨_,rfl⟩
  rw[<-hQ]at h8 ⊢;have HV8:=iH (HV.out.later hb8);have HW8:=iH hb8w;have H8:Hid (∀W,Below w8.heap.size w8 W->W.heap[Q]? =some (.cells (aX z) 35 (0,0))):=fun W hb=>kW hb h8
  have HNQ:Hid (iv.ownBlock≠some Q):=fun e=>by have:=HV.out.lt e;omega
  clear hQ h8 k8 hb8 hb8w HV HW HRG;go_loopw [7,8] (fun a7 a8 W=>∃(i:Nat) (iv:Value) (out:List Tr),i<=N/\a8=.int .i64 (i:Int)/\iv=a7/\Hid (MgS A B i k out)/\Hid (gV w.heap.size (fun g=>g<w.heap.size) W iv out)/\Hid (iv.ownBlock≠some Q)/\Hid (Below w.heap.size w W)/\Hid (W.heap[Q]? =some (.cells (aX z) 35 (0,0)))) (fun _ a8 _=>N-(intOf a8).toNat)
  case atStart=>exact⟨i,iv,out,hi,rfl,rfl,HMG.out,HV8.out,HNQ.out,HW8.out,H8.out _ (aY _ _)⟩
  case round=>
   clear hi HMG HV8 HW8 H8
   rename World=>wi
   obtain⟨i,iv,out,hi,rfl,rfl,HMG,HV,HNQ,HW,HQ⟩:=hrel;have HOL:Hid (out.length<=50000):=by show _<=_;rw[HMG.out.2.1];have:=HNM.out;omega
   by_cases hin:i<N
   case pos=>
    have hin':(i:Int)<(N:Int):=by omega
    have i0:(0:Int)<=(i:Int):=by omega
    have hiA:i<A.length:=by rw[<-HNM.out.1];exact hin
    obtain⟨bo,hbo⟩:∃q,q=decide (eC A[i] (B[k]'HKB.out)<=0):=⟨_,rfl⟩
    have HCC:Hid (Calls Tryz.prog 59 #[.int .i64 (i:Int),.int .i64 (k:Int),.pointer (some ⟨X,0,none⟩),.pointer (some ⟨Y,0,none⟩)] wi fun r w'=>r=.returned (.bool bo)/\∃q,w'=wi.drewN q):=by rw[hbo];exact HCL.out _ HW.out i k hiA HKB.out
    have HBO:=iH hbo;have HIN:=iH hin;have HIA:=iH hiA;clear hbo hin;cases bo with
    |true=>
     obtain rfl:=HA.out (by have:=HIN.out;omega);obtain⟨y,hy0,hy1,hrg⟩:=HR.out i HIA.out;have HRG:Hid (∀W,Below wi.heap.size wi W->W.rangeAt b (oo+i*4) (aX y).toList):=fun W hb=>dB (dB hrg HW.out) hb
     have HY0:=iH hy0;have HY1:Hid (∀W,Below w.heap.size w W->VAt (fun g=>g<w.heap.size) W (A[i]'HIA.out) y):=fun W hb=>(hy1.old.weak (S':=fun g=>g<w.heap.size) fun _ h=>h.2).low hb
     have HNX:=iH (HMG.out.left HIA.out HKB.out (of_decide_eq_true HBO.out.symm));clear hy0 hy1 hrg;go_wp2_with (first
      |(go_at_call 59;(with_reducible refine(HCC.out).mono ?_);rintro r V ⟨rfl,q,rfl⟩;have hbd:=aAv wi.heap.size wi q;have HVd:=iH (HV.out.later hbd);have HWd:=iH (tW HW.out hbd);have HQd:=iH (kW hbd HQ.out);have HRd:=iH (HRG.out _ hbd);clear hbd;generalize wi.drewN q=wd at HVd HWd HQd HRd ⊢)
      |(refine oU uAz _ rfl b (oo+i*4) rfl (aX y) HRd.out rfl ?_)
      |(refine nK rfl 52 35 _ rfl (aX y) 4 (.agg #[.int .i64 0,.int .i64 0,.string ⟨#[]⟩,.pointer none]) rfl rfl uAv uAv Tryz.underlying52 pS ?_;intro wl hl hbl hzl;have HL:=iH hl;have HVL:=iH (HVd.out.later hbl);have HWL:=iH (tW HWd.out hbl);have HYL:=iH (HY1.out _ HWL.out);have HQL:=iH (kW hbl HQd.out);clear hl hbl hzl)
      |(refine yD rfl _ _ rfl rfl HVL.out (fun g hg=>hg) HWL.out.size HOL.out wd.heap.size _ rfl HL.out HY0.out HYL.out ?_;intro v9 w9 hv9 hb9 hg9 ho9;have HV9:=iH hv9;have HB9:=iH (HWL.out.trans (hb9.mono (aE _)));have HQ9:Hid (w9.heap[Q]? =some (.cells (aX z) 35 (0,0))):=(hg9.block Q (gZ HQL.out) (fun e=>HNQ.out e.symm)).trans HQL.out;have HN9:Hid (v9.ownBlock≠some Q):=(fun e=>by rcases ho9 with h|⟨g,h,hl⟩<;>first|exact HNQ.out (h.symm.trans e)|(rw[h]at e;obtain rfl:=aN e;have:=(gZ HQL.out);omega));clear hv9 hb9 hg9 ho9))
     go_roundw
     case rel=>exact⟨i+1,_,_,by have:=HIN.out;omega,by go_num,rfl,HNX.out,HV9.out,HN9.out,HB9.out,HQ9.out⟩
     case measure=>have:=HIN.out;simp[intOf];omega
    |false=>
     have HNX:=iH (HMG.out.right HKB.out (fun _=>of_decide_eq_false HBO.out.symm));go_wp2_with (first
      |(go_at_call 59;(with_reducible refine(HCC.out).mono ?_);rintro r V ⟨rfl,q,rfl⟩;have hbd:=aAv wi.heap.size wi q;have HVd:=iH (HV.out.later hbd);have HWd:=iH (tW HW.out hbd);have HQd:=iH (kW hbd HQ.out);clear hbd;generalize wi.drewN q=wd at HVd HWd HQd ⊢)
      |(refine bR rfl 35 _ rfl Q rfl 35 _ _ _ HQd.out Tryz.underlying35 rfl aR ?_)
      |(refine nK rfl 52 35 _ rfl (aX z) 4 (.agg #[.int .i64 0,.int .i64 0,.string ⟨#[]⟩,.pointer none]) rfl rfl uAv uAv Tryz.underlying52 pS ?_;intro wl hl hbl hzl;have HL:=iH hl;have HVL:=iH (HVd.out.later hbl);have HWL:=iH (tW HWd.out hbl);have HYL:=iH (HZ1.out _ HWL.out);clear hl hbl hzl)
      |(refine yD rfl _ _ rfl rfl HVL.out (fun g hg=>hg) HWL.out.size HOL.out wd.heap.size _ rfl HL.out HZ0.out HYL.out ?_;intro v9 w9 hv9 hb9 _ _;have HV9:=iH hv9;have HB9:=iH (HWL.out.trans (hb9.mono (aE _)));clear hv9 hb9))
     go_roundw
     case rel=>exact⟨i,k+1,_,_,hi,by have:=HLT.out;omega,rfl,by go_num,rfl,HNX.out,HV9.out,HB9.out⟩
     case measure=>have:=HLT.out;simp[intOf];omega
   obtain rfl:i=N:=by omega
   have HNX:=iH (HMG.out.right HKB.out (fun h=>by have:=HNM.out;omega));have HVd:=HV;have HWd:=HW;have HQd:=HQ;go_wp2_with (first
    |(refine bR rfl 35 _ rfl Q rfl 35 _ _ _ HQd.out Tryz.underlying35 rfl aR ?_)
    |(refine nK rfl 52 35 _ rfl (aX z) 4 (.agg #[.int .i64 0,.int .i64 0,.string ⟨#[]⟩,.pointer none]) rfl rfl uAv uAv Tryz.underlying52 pS ?_;intro wl hl hbl hzl;have HL:=iH hl;have HVL:=iH (HVd.out.later hbl);have HWL:=iH (tW HWd.out hbl);have HYL:=iH (HZ1.out _ HWL.out);clear hl hbl hzl)
    |(refine yD rfl _ _ rfl rfl HVL.out (fun g hg=>hg) HWL.out.size HOL.out wi.heap.size _ rfl HL.out HZ0.out HYL.out ?_;intro v9 w9 hv9 hb9 _ _;have HV9:=iH hv9;have HB9:=iH (HWL.out.trans (hb9.mono (aE _)));clear hv9 hb9))
   go_roundw
   case rel=>exact⟨i,k+1,_,_,hi,by have:=HLT.out;omega,rfl,by go_num,rfl,HNX.out,HV9.out,HB9.out⟩
   case measure=>have:=HLT.out;simp[intOf];omega
theorem aOB (A B:List Tr) (va vb:Value) (w:World) (hva:lU (fun _=>True) w va A) (hvb:lU (fun _=>True) w vb B) (hA:A.length<=20000) (hB:B.length<=20000) (hT:fW w):
  Calls Tryz.prog 30 #[va,vb] w fun r w'=>∃u,r=.returned u/\lU (fun _=>True) w' u (mrg A B)/\Below w.heap.size w w':=by
 have HKA:=iH (vM A va w hva uAu hT);have HKB:=iH (fun W (hb:Below w.heap.size w W)=>vM B vb W (hvb.later hb) uAu (hT.below hb));have HVA:=iH hva;have HVB:=iH hvb;have HLN:=iH (And.intro hA hB);clear hva hvb hT hA hB;go_enter Tryz.func30,Tryz.ntmps30;go_upto_region 2 with(first
  |(go_at_call 52;(with_reducible refine(HKA.out).mono ?_);rintro r w1 ⟨u,rfl,hu,hb⟩;obtain⟨ua,uc,rfl⟩:=hu.shape';have HU:=iH hu;have HB1:=iH hb;clear hu hb)
  |(go_at_call 52;(with_reducible refine(HKB.out _ HB1.out).mono ?_);rintro r w2 ⟨u',rfl,hu,hb⟩;obtain⟨va',vc',rfl⟩:=hu.shape';have HV:=iH hu;have HB2:=iH hb;clear hu hb))
 obtain⟨u,hu⟩:∃u,u=Value.slice ua (tN A).length uc:=⟨_,rfl⟩
 obtain⟨v,hv⟩:∃v,v=Value.slice va' (tN B).length vc':=⟨_,rfl⟩
 rw[<-hu]at HU ⊢;rw[<-hv]at HV ⊢;obtain⟨w3,hw3⟩:∃w3,(w2.alloc (.cells #[u] 25)).alloc (.cells #[v] 25)=w3:=⟨_,rfl⟩
 obtain⟨hb3,hx3,hy3,_⟩:=eR hw3;obtain⟨X,hX⟩:∃X,X=w2.heap.size:=⟨_,rfl⟩
 rw[<-hX]at hx3 hy3;have hb2:=tW HB1.out HB2.out;have hbw:=tW hb2 hb3;have hu3:=(HU.out.later HB2.out).later hb3;have hv3:=HV.out.later hb3;have HMG:=iH (aIX A B va vb w3 X (X+1) (HVA.out.later hbw) (HVB.out.later hbw) HLN.out.1 HLN.out.2 (fun W hW i k hi hk=>aIY A B X (X+1) u v W (kW hW hx3) (kW hW hy3) (hu3.later hW) (hv3.later hW) i k hi hk uIv uIv));have HBW:=iH hbw;rw[hw3,<-hX];clear hw3 hX hb3 hx3 hy3 hb2 hbw hu3 hv3 HU HV hu hv HKA HKB HB1 HB2;go_wp2_with (go_at_call 58;(with_reducible refine(HMG.out).mono ?_);rintro r w4 ⟨y,rfl,hy,hb⟩;have HY:=iH hy;have HB4:=iH hb;clear hy hb)
 go_ret;exact⟨_,rfl,HY.out.vaLs.weak fun _ _=>trivial,tW HBW.out HB4.out⟩
end Go.Proofs.YtengibnpebfblaaGreatDoor
