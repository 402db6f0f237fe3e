import Derived.Test.YtengibnpebfblaaGreatDoorB40
import Derived.Test.YtengibnpebfblaaGreatDoorB45
import Derived.Test.YtengibnpebfblaaGreatDoorB52
import Derived.Sort.LotA
set_option maxRecDepth 1000000
set_option maxHeartbeats 8000000
set_option linter.unusedSimpArgs false
namespace Go.Proofs
open Go.Shelf
def Tryz.insI_ren:Go.Shelf.Ren:=⟨fun|20=>128|n=>n,fun|24=>3|22=>99|3=>3|25=>111|4=>4|0=>0|n=>n,fun|n=>n⟩
theorem Tryz.insI:Go.Proofs.SlLaysF.n20 Tryz.prog Tryz.insI_ren:={
 mixed:=by kernel_rfl
 f20:=⟨Tryz.f128.name,by decide,Tryz.func128.trans (congrArg some (by kernel_rfl))⟩
 t0:=Tryz.underlying0
 a0:=Tryz.isAgg0
 z0:=Tryz.sizeOf0
 v0:=Tryz.zeroValue0
 t3:=Tryz.underlying3
 a3:=Tryz.isAgg3
 z3:=Tryz.sizeOf3
 v3:=Tryz.zeroValue3
 t4:=Tryz.underlying4
 a4:=Tryz.isAgg4
 z4:=Tryz.sizeOf4
 v4:=Tryz.zeroValue4
 t22:=Tryz.underlying99
 a22:=Tryz.isAgg99
 z22:=Tryz.sizeOf99
 v22:=Tryz.zeroValue99
 a24:=Tryz.isAgg3
 z24:=Tryz.sizeOf3
 t25:=Tryz.underlying111
 a25:=Tryz.isAgg111
 z25:=Tryz.sizeOf111
 v25:=Tryz.zeroValue111}
end Go.Proofs
namespace Go.Proofs.YtengibnpebfblaaGreatDoor
open Go.RowKit
def LeT (a b:Tr):Prop:=ordT a b<=0
theorem LeT.trans {a b c:Tr} (h:LeT a b) (h':LeT b c):LeT a c:=(orderS_trans _ _ _ h h').1
theorem leT_total {a b:Tr} (h:¬LeT a b):LeT b a:=by
 unfold LeT ordT at*
 rw[orderS_neg];omega
theorem LeT.anti {a b:Tr} (ha:Good a) (hb:Good b) (h:LeT a b) (h':LeT b a):a=b:=by
 unfold LeT ordT at*
 rw[orderS_neg]at h';exact key_inj ha hb ((orderS_zero _ _).1 (by omega))
def insP (t:Tr) (P:List Tr):Nat:=(P.takeWhile fun x=>decide (ordT x t<=0)).length
def srtT (l:List Tr):List Tr:=l.foldl (fun P t=>putN (insP t P) P t) []
theorem srtT_next (l:List Tr) (t:Tr):srtT (l++[t])=putN (insP t (srtT l)) (srtT l) t:=by
 unfold srtT;rw[List.foldl_append];rfl
theorem insP_le (t:Tr) (P:List Tr):insP t P<=P.length:=(List.takeWhile_prefix _).length_le
theorem insP_at {t:Tr}:∀{P:List Tr} {j:Nat} (hj:j<P.length),(∀q (h:q<P.length),q<j->ordT P[q] t<=0)->((ordT P[j] t<=0->j+1<=insP t P)/\(¬ordT P[j] t<=0->insP t P=j))
 |[],_,hj,_=>absurd hj (Nat.not_lt_zero _)
 |x::r,0,_,_=>by
  unfold insP;rw[List.takeWhile_cons];by_cases h:ordT x t<=0
  ·rw[if_pos (by simpa using h),List.length_cons]
   exact⟨fun _=>by omega,fun e=>absurd h e⟩
  ·rw[if_neg (by simpa using h),List.length_nil]
   exact⟨fun e=>absurd e h,fun _=>rfl⟩
 |x::r,j+1,hj,hq=>by
  have h0:ordT x t<=0:=hq 0 (Nat.zero_lt_succ _) (Nat.zero_lt_succ _);have ih:=insP_at (t:=t) (P:=r) (j:=j) (Nat.lt_of_succ_lt_succ hj) fun q h hqj=>hq (q+1) (Nat.succ_lt_succ h) (Nat.succ_lt_succ hqj)
  unfold insP at*
  rw[List.takeWhile_cons,if_pos (by simpa using h0),List.length_cons];refine⟨fun e=> ?_,fun e=> ?_⟩
  ·have:=ih.1 e;omega
  ·have:=ih.2 e;omega
theorem insP_all {t:Tr}:∀{P:List Tr},(∀q (h:q<P.length),ordT P[q] t<=0)->insP t P=P.length
 |[],_=>rfl
 |x::r,h=>by
  have h0:ordT x t<=0:=h 0 (Nat.zero_lt_succ _);have ih:=insP_all (t:=t) (P:=r) fun q hq=>h (q+1) (Nat.succ_lt_succ hq)
  unfold insP at*
  rw[List.takeWhile_cons,if_pos (by simpa using h0),List.length_cons,List.length_cons,ih]
theorem srtT_perm:∀(l:List Tr),(srtT l).Perm l:=fun l=>by
 have h:∀(l P:List Tr),(l.foldl (fun P t=>putN (insP t P) P t) P).Perm (P++l):=fun l=>by
  induction l with
  |nil=>intro P;simp
  |cons x r ih=>
   intro P;rw[List.foldl_cons];refine(ih _).trans ?_;refine((putN_perm _ P x).append_right r).trans ?_;rw[List.cons_append];exact List.perm_middle.symm
 exact h l []
theorem srtT_len (l:List Tr):(srtT l).length=l.length:=(srtT_perm l).length_eq
theorem put_sorted {P:List Tr} (t:Tr) (h:P.Pairwise LeT):(putN (insP t P) P t).Pairwise LeT:=by
 induction P with
 |nil=>unfold putN insP;simp
 |cons x r ih=>
  obtain⟨h1,h2⟩:=List.pairwise_cons.1 h;by_cases hx:ordT x t<=0
  ·have he:putN (insP t (x::r)) (x::r) t=x::putN (insP t r) r t:=by
    unfold putN insP;rw[List.takeWhile_cons,if_pos (by simpa using hx),List.length_cons,List.take_succ_cons,List.drop_succ_cons,List.cons_append]
   rw[he];refine List.pairwise_cons.2 ⟨fun y hy=> ?_,ih h2⟩;rcases List.mem_cons.1 ((putN_perm _ r t).mem_iff.1 hy)with rfl|hy
   ·exact hx
   ·exact h1 y hy
  ·have he:putN (insP t (x::r)) (x::r) t=t::x::r:=by
    unfold putN insP;rw[List.takeWhile_cons,if_neg (by simpa using hx)];rfl
   rw[he];have htx:LeT t x:=leT_total hx;refine List.pairwise_cons.2 ⟨fun y hy=> ?_,h⟩;rcases List.mem_cons.1 hy with rfl|hy
   ·exact htx
   ·exact htx.trans (h1 y hy)
theorem srtT_sorted (l:List Tr):(srtT l).Pairwise LeT:=by
 have h:∀(l P:List Tr),P.Pairwise LeT->(l.foldl (fun P t=>putN (insP t P) P t) P).Pairwise LeT:=fun l=>by
  induction l with
  |nil=>intro P h;exact h
  |cons x r ih=>intro P h;rw[List.foldl_cons];exact ih _ (put_sorted x h)
 exact h l [] List.Pairwise.nil
theorem sorted_one:∀{l m:List Tr},l.Perm m->(∀x∈m,Good x)->l.Pairwise LeT->m.Pairwise LeT->l=m
 |[],m,hp,_,_,_=>(List.Perm.nil_eq hp)
 |x::r,[],hp,_,_,_=>absurd hp.length_eq (by simp)
 |x::r,y::s,hp,hg,hl,hm=>by
  obtain⟨l1,l2⟩:=List.pairwise_cons.1 hl;obtain⟨m1,m2⟩:=List.pairwise_cons.1 hm;have hx:x∈y::s:=hp.mem_iff.1 (List.mem_cons_self ..);have hy:y∈x::r:=hp.mem_iff.2 (List.mem_cons_self ..);have e:x=y:=by
   rcases List.mem_cons.1 hx with h|h
   ·exact h
   ·rcases List.mem_cons.1 hy with h'|h'
    ·exact h'.symm
    ·exact LeT.anti (hg x hx) (hg y (List.mem_cons_self ..)) (l1 y h') (m1 x h)
  subst e;rw[sorted_one ((List.perm_cons x).1 hp) (fun z hz=>hg z (List.mem_cons_of_mem _ hz)) l2 m2]
theorem srtT_only {l m:List Tr} (hp:m.Perm l) (hg:∀x∈l,Good x) (hs:m.Pairwise LeT):m=srtT l:=
 sorted_one (hp.trans (srtT_perm l).symm) (fun x hx=>hg x ((srtT_perm l).mem_iff.1 hx)) hs (srtT_sorted l)
def LtT (a b:Tr):Prop:=ordT a b<0
theorem LtT.trans {a b c:Tr} (h:LtT a b) (h':LtT b c):LtT a c:=by
 unfold LtT ordT at*
 rcases(orderS_trans _ _ _ (Int.le_of_lt h) (Int.le_of_lt h')).2 with h1|h1
 ·omega
 ·exact h1
theorem ordT_self (t:Tr):ordT t t=0:=(orderS_zero _ _).2 rfl
theorem ordT_swap (a b:Tr):ordT b a= -ordT a b:=by unfold ordT;rw[orderS_neg]
def cfO {n:Nat} (l:List Tr) (hn:l.length=n+1) (i k:Fin (n+1)):Int:=ordT (l[i.val]'(by omega)) (l[k.val]'(by omega))
theorem cfO_swo {n:Nat} (l:List Tr) (hn:l.length=n+1):Go.Sort.SWO (Go.Proofs.ltOf (cfO l hn)):=by
 have hlt:∀x y,Go.Proofs.ltOf (cfO l hn) x y=decide (cfO l hn x y<0):=fun _ _=>rfl
 refine⟨fun x=> ?_,fun x y z h1 h2=> ?_,fun x y z h1 h2=> ?_⟩
 ·rw[hlt,decide_eq_false_iff_not]
  unfold cfO;rw[ordT_self];omega
 ·rw[hlt,decide_eq_true_iff]at*
  exact LtT.trans h1 h2
 ·rw[hlt,decide_eq_false_iff_not]at*
  unfold cfO at*
  have h3:LeT (l[y.val]'(by omega)) (l[x.val]'(by omega)):=by unfold LeT;rw[ordT_swap];omega
  have h4:LeT (l[z.val]'(by omega)) (l[y.val]'(by omega)):=by unfold LeT;rw[ordT_swap];omega
  have h5:=LeT.trans h4 h3;unfold LeT at h5;rw[ordT_swap]at h5;omega
def plc12 (n:Nat):Array (Fin (n+1)):=Array.ofFn id
theorem plc12_size (n:Nat):(plc12 n).size=n+1:=by unfold plc12;simp
theorem plc12_at (n:Nat) (i:Nat) (h:i<n+1):(plc12 n)[i]! =⟨i,h⟩:=by
 rw[getElem!_pos (plc12 n) i (by rw[plc12_size];exact h)];unfold plc12;simp
theorem laid_sorted {n:Nat} (l:List Tr) (hn:l.length=n+1) (hg:∀x∈l,Good x) (d:Array (Fin (n+1))) (hp:Go.Sort.PermIn 0 (n+1) (plc12 n) d) (hs:Go.Sort.SortedIn (Go.Proofs.ltOf (cfO l hn)) 0 (n+1) d):
  d.toList.map (fun i=>l[i.val]'(by omega))=srtT l:=by
 obtain⟨h1,_,h3⟩:=hp;rw[plc12_size]at h1;have e1:(d.extract 0 (n+1)).toList=d.toList:=by
  have h:=Array.extract_size (xs:=d);rw[h1]at h;rw[h]
 have e2:((plc12 n).extract 0 (n+1)).toList=(plc12 n).toList:=by
  have h:=Array.extract_size (xs:=plc12 n);rw[plc12_size]at h;rw[h]
 rw[e1,e2]at h3;have e3:(plc12 n).toList.map (fun i=>l[i.val]'(by omega))=l:=by
  apply List.ext_getElem
  ·rw[List.length_map,Array.length_toList,plc12_size,hn]
  ·intro i h4 h5
   rw[List.length_map,Array.length_toList,plc12_size]at h4;have e:(plc12 n).toList[i]'(by rw[Array.length_toList,plc12_size];exact h4)=⟨i,h4⟩:=by
    rw[Array.getElem_toList];unfold plc12;rw[Array.getElem_ofFn];rfl
   rw[List.getElem_map];simp only[e]
 refine srtT_only ((h3.map _).trans (by rw[e3])) hg ?_;rw[List.pairwise_map,List.pairwise_iff_getElem];intro i j hi hj hij;rw[Array.length_toList,h1]at hi hj;have h:=hs i j (Nat.zero_le _) hij hj;rw[getElem!_pos d i (by omega),getElem!_pos d j (by omega)]at h;have h':¬cfO l hn d[j] d[i]<0:=of_decide_eq_false h;unfold cfO at h';rw[ordT_swap]at h';unfold LeT;simp only[Array.getElem_toList];omega
def mrg:List Tr->List Tr->List Tr
 |a,[]=>a
 |[],y::b=>y::b
 |x::a,y::b=>if ordT x y<=0 then x::mrg a (y::b)else y::mrg (x::a) b
termination_by a b=>a.length+b.length
theorem mrg_nil (b:List Tr):mrg [] b=b:=by cases b<;>rw[mrg]
theorem mrg_none (a:List Tr):mrg a []=a:=by rw[mrg]
theorem mrg_left {x y:Tr} {a b:List Tr} (h:ordT x y<=0):mrg (x::a) (y::b)=x::mrg a (y::b):=by rw[mrg,if_pos h]
theorem mrg_right {x y:Tr} {a b:List Tr} (h:¬ordT x y<=0):mrg (x::a) (y::b)=y::mrg (x::a) b:=by rw[mrg,if_neg h]
theorem mrg_done {y:Tr} {b:List Tr}:mrg [] (y::b)=y::mrg [] b:=by rw[mrg_nil,mrg_nil]
theorem mrg_perm:∀(a b:List Tr),(mrg a b).Perm (a++b)
 |a,[]=>by rw[mrg_none,List.append_nil]
 |[],y::b=>by rw[mrg_nil];rfl
 |x::a,y::b=>by
  by_cases h:ordT x y<=0
  ·rw[mrg_left h]
   exact(mrg_perm a (y::b)).cons x
  ·rw[mrg_right h]
   exact((mrg_perm (x::a) b).cons y).trans List.perm_middle.symm
termination_by a b=>a.length+b.length
theorem mrg_sorted:∀(a b:List Tr),a.Pairwise LeT->b.Pairwise LeT->(mrg a b).Pairwise LeT
 |a,[],ha,_=>by rw[mrg_none];exact ha
 |[],y::b,_,hb=>by rw[mrg_nil];exact hb
 |x::a,y::b,ha,hb=>by
  obtain⟨a1,a2⟩:=List.pairwise_cons.1 ha;obtain⟨b1,b2⟩:=List.pairwise_cons.1 hb;by_cases h:ordT x y<=0
  ·rw[mrg_left h]
   refine List.pairwise_cons.2 ⟨fun z hz=> ?_,mrg_sorted a (y::b) a2 hb⟩;rcases List.mem_append.1 ((mrg_perm a (y::b)).mem_iff.1 hz)with hz|hz
   ·exact a1 z hz
   ·rcases List.mem_cons.1 hz with rfl|hz
    ·exact h
    ·exact LeT.trans h (b1 z hz)
  ·rw[mrg_right h]
   refine List.pairwise_cons.2 ⟨fun z hz=> ?_,mrg_sorted (x::a) b ha b2⟩;have hyx:=leT_total h;rcases List.mem_append.1 ((mrg_perm (x::a) b).mem_iff.1 hz)with hz|hz
   ·rcases List.mem_cons.1 hz with rfl|hz
    ·exact hyx
    ·exact hyx.trans (a1 z hz)
   ·exact b1 z hz
termination_by a b=>a.length+b.length
theorem mrg_all (l m:List Tr) (hl:∀x∈l,Good x) (hm:∀x∈m,Good x):mrg (srtT l) (srtT m)=srtT (l++m):=
 srtT_only ((mrg_perm _ _).trans ((srtT_perm l).append (srtT_perm m))) (fun x hx=>(List.mem_append.1 hx).elim (hl x) (hm x)) (mrg_sorted _ _ (srtT_sorted l) (srtT_sorted m))
open Go.Lib Go.Sort
theorem keyR_flat (l:List Tr):(keyR l).flatMap Array.toList=l.map fun a=>Value.string (kB a):=by
 unfold keyR;induction l with
 |nil=>rfl
 |cons a l ih=>rw[List.map_cons,List.flatMap_cons,ih];rfl
theorem keyR_cell {B:Nat} {u:Value} {l:List Tr} {W:World} (h:RowsOwn B 9 1 u (keyR l) W) (h0:0<l.length):∃g o c,u=.slice (some ⟨g,o,none⟩) l.length c/\∀i (hi:i<l.length),W.cell? ⟨g,o+i,none⟩=some (.string (kB l[i])):=by
 have h1:=lsT_cut h.lsT;have e:(keyR l).length=l.length:=by unfold keyR;rw[List.length_map]
 rw[e,keyR_flat]at h1;obtain⟨g,o,c,rfl,_,_,_,h2⟩:=h1.pos h0;exact⟨g,o,c,rfl,fun i hi=>h2 i _ (by rw[List.getElem?_map,List.getElem?_eq_getElem hi];rfl)⟩
theorem od_Sort1 {B:Nat} (l:List Tr) (X:Nat) (u:Value) (W:World) (hX:W.heap[X]? =some (.cells #[u] 25 (0,0))) (hu:RowsOwn B 9 1 u (keyR l) W) (i k:Nat) (hi:i<l.length) (hk:k<l.length) (hl:l.length<=90000):
  Calls Tryz.prog 54 #[.int .i64 (i:Int),.int .i64 (k:Int),.pointer (some ⟨X,0,none⟩)] W fun r w'=>r=.returned (.int .i64 (ordT l[i] l[k]))/\∃q,w'=W.drewN q:=by
 obtain⟨g,o,c,rfl,hc⟩:=keyR_cell hu (by omega);have c0:W.cell? ⟨X,0,none⟩=some (.slice (some ⟨g,o,none⟩) l.length c):=cell_in hX rfl;have c1:=hc i hi;have c2:=hc k hk;obtain⟨ki,hki⟩:∃q,q=kB l[i]:=⟨_,rfl⟩
 obtain⟨kk,hkk⟩:∃q,q=kB l[k]:=⟨_,rfl⟩
 obtain⟨n,hn⟩:∃q,q=ordT l[i] l[k]:=⟨_,rfl⟩
 have HO:Hid (∀W,Calls Tryz.prog 40 #[.string ki,.string kk] W fun e w'=>e=.returned (.int .i64 n)/\W=w'):=fun W=>by
  have h:=q_Order ki kk W;rw[hki,hkk,kB_data,kB_data]at h;rw[hn,hki,hkk];exact h
 rw[<-hn];rw[<-hki]at c1;rw[<-hkk]at c2;obtain⟨N,hN⟩:∃N,N=l.length:=⟨_,rfl⟩
 rw[<-hN]at c0 hi hk hl;have i0:(0:Int)<=(i:Int):=by omega
 have k0:(0:Int)<=(k:Int):=by omega
 have i1:(i:Int)<(N:Int):=by omega
 have k1:(k:Int)<(N:Int):=by omega
 have n1:(N:Int)<=90000:=by omega
 clear hki hkk hn hN hX hu hc hi hk hl;go_enter Tryz.func54,Tryz.ntmps54;go_upto_region 1 with fail
 go_quiet (first|(go_at_call 40;exact Calls.quiet_of_same ((HO.out _).mono fun _ _ h=>⟨h.1,h.2.symm⟩)))
 go_wp2_with fail
 go_ret;exact⟨rfl,_,rfl⟩
theorem ints_full {ops:Array Oper} {rest:List Oper} {o:Oper} {a:Act} {Q:Exit->Act->World->Prop} {w:World} (hgd:o.guard=none) (x c:Operand) (hop:o.op=.makeSlice 99 x c)
  (kl kc:IntKind) (n:Nat) (hl:a.eval x=.int kl (n:Int)) (hc:a.eval c=.int kc (n:Int)) (hn:n<=100000)
  (h:∀w' cs,w'.heap[w.heap.size]? =some (.cells cs 3 (0,0))->cs.size=n->Below w.heap.size w w'->wpList Tryz.prog ops Q rest (a.put o.dst (.slice (some ⟨w.heap.size,0,none⟩) n n)) w'):wpList Tryz.prog ops Q (o::rest) a w:=
 wpList_plain hgd fun _ hK=>by
  have hrun:=run_make_row' (P:=Tryz.prog) 99 3 (.int .i64 0) 8 Tryz.underlying99 (by kernel_rfl) rfl kl kc n (by omega) (by omega) w;unfold Oper.wp;simp[execOp,hop,hl,hc,hrun,Result.andThen];exact hK _ _ (h _ _ (heap_alloc_last w _) (by simp[madeCells]) (Below.newly' _ _))
abbrev encF {n:Nat} (i:Fin (n+1)):Value:=.int .i64 (i.val:Int)
theorem od_stable {n N B cap g:Nat} {lb:Array Value} (l:List Tr) (hn:l.length=n+1) (hN:N=n+1) (h12:N<=12) (w:World) (eg:∀args w,(callFunc g args).run Tryz.prog w=.ok (.enter g args) w)
  (hH:Holds encF w B 0 (plc12 n)) (hlt:B<w.heap.size) (hcmp:CmpLays1 Tryz.prog g lb encF (cfO l hn) B 0 (plc12 n).size w):
  Calls Tryz.prog 112 #[.slice (some ⟨B,0,none⟩) N cap,.int .i64 (N:Int),.func (.func g) #[] lb] w fun r w'=>r=.returned (.tuple #[])/\∃d,PermIn 0 (n+1) (plc12 n) d/\SortedIn (ltOf (cfO l hn)) 0 (n+1) d/\SW encF w B 0 d w':=by
 have hs:=plc12_size n;have h:=Any.insertionSortCmpFunc_s Tryz.insI encF (cfO l hn) g lb B 0 cap 0 (n+1) (plc12 n) (plc12 n) w w eg hcmp ⟨fun _=>rfl,hH,hlt⟩ rfl (SW.start hH) (Nat.zero_le _) (by omega) (by omega);have hso:=insertionSort_holds (lt:=ltOf (cfO l hn)) (cfO_swo l hn) (plc12 n) 0 (n+1) (Nat.zero_le _) (by omega);rw[hs]at h;have HI:Hid (Calls Tryz.prog 128 #[.slice (some ⟨B,0,none⟩) N cap,.int .i64 0,.int .i64 (N:Int),.func (.func g) #[] lb] w fun r w'=>r=.returned (.tuple #[])/\∃d,PermIn 0 (n+1) (plc12 n) d/\SortedIn (ltOf (cfO l hn)) 0 (n+1) d/\SW encF w B 0 d w'):=by
  subst hN;exact h.mono fun _ _ h=>⟨h.1,_,hso.1,hso.2,h.2⟩
 have n20:¬(20:Int)<=(N:Int):=by omega
 have n21:¬(20:Int)<(N:Int):=by omega
 clear h hso hs hcmp hH hN h12;go_enter Tryz.func112,Tryz.ntmps112;go_wp2_with fail
 refine wp_loop_rounds 1 ?_;rw[rounds_succ];go_wp2_with (go_at_call 128;(with_reducible refine(HI.out).mono ?_);rintro r w1 ⟨rfl,d,hp,hd,hw⟩;have HD:=iH (And.intro hp (And.intro hd hw));clear hp hd hw)
 refine wp_loop_rounds 1 ?_;rw[rounds_succ];go_wp2_with fail
 go_end0;exact⟨rfl,d,HD.out⟩
def Plc12 (B N j:Nat) (W:World):Prop:=∃cs,W.heap[B]? =some (.cells cs 3 (0,0))/\cs.size=N/\∀q,q<j->cs[q]? =some (.int .i64 (q:Int))
theorem int_size12:(Tryz.prog.info? 3).map (·.size)=some 1:=by kernel_rfl
theorem Plc12.put {B N j:Nat} {W:World} {cs:Array Value} (hc2:cs.size=N) (hc3:∀q,q<j->cs[q]? =some (.int .i64 (q:Int))) (hj:j<N) (h:W.heap[B]? =some (.cells (cs.setIfInBounds j (.int .i64 (j:Int))) 3 (0,0))):Plc12 B N (j+1) W:=by
 refine⟨_,h,by rw[Array.size_setIfInBounds];exact hc2,fun q hq=> ?_⟩;rcases Nat.lt_or_ge q j with h1|h1
 ·rw[Array.getElem?_setIfInBounds_ne (by omega)]
  exact hc3 q h1
 ·obtain rfl:q=j:=by omega
  rw[Array.getElem?_setIfInBounds_self_of_lt (by rw[hc2];exact hj)]
theorem Plc12.holds {B n:Nat} {W:World} (h:Plc12 B (n+1) (n+1) W):Holds encF W B 0 (plc12 n):=by
 obtain⟨cs,h1,h2,h3⟩:=h;intro j hj;rw[plc12_size]at hj;rw[plc12_at n j hj,Nat.zero_add];exact⟨cell_in h1 (h3 j hj),by unfold World.frozen?;simp[h1]⟩
theorem od_stab0 (B g:Nat) (lb:Array Value) (w:World):Calls Tryz.prog 87 #[.slice (some ⟨B,0,none⟩) 0 0,.func (.func g) #[] lb] w fun r w'=>r=.returned (.tuple #[])/\w'=w:=by
 have H1:Hid (∀W,Calls Tryz.prog 128 #[.slice (some ⟨B,0,none⟩) 0 0,.int .i64 0,.int .i64 0,.func (.func g) #[] lb] W fun r w'=>r=.returned (.tuple #[])/\W=w'):=fun W=>by
  go_enter Tryz.func128,Tryz.ntmps128;go_wp2_with fail
  refine wp_loop_rounds 1 ?_;rw[rounds_succ];go_wp2_with fail
  go_end0;exact⟨rfl,rfl⟩
 have H2:Hid (∀W,Calls Tryz.prog 112 #[.slice (some ⟨B,0,none⟩) 0 0,.int .i64 0,.func (.func g) #[] lb] W fun r w'=>r=.returned (.tuple #[])/\W=w'):=fun W=>by
  go_enter Tryz.func112,Tryz.ntmps112;go_wp2_with fail
  refine wp_loop_rounds 1 ?_;rw[rounds_succ];go_wp2_with (go_at_call 128;(with_reducible refine(H1.out _).mono ?_);rintro r w1 ⟨rfl,rfl⟩)
  refine wp_loop_rounds 1 ?_;rw[rounds_succ];go_wp2_with fail
  go_end0;exact⟨rfl,rfl⟩
 go_enter Tryz.func87,Tryz.ntmps87;go_wp2_with (go_at_call 112;(with_reducible refine(H2.out _).mono ?_);rintro r w1 ⟨rfl,rfl⟩)
 go_end0;exact⟨rfl,rfl⟩
theorem od_stabN (l:List Tr) (N B X:Nat) (w w0:World) (hN:N=l.length) (h12:N<=12) (hgd:∀x∈l,Good x) (hw:Below w.heap.size w w0) (hB:w.heap.size<=B) (hP:Plc12 B N N w0)
  (hcl:∀W,Below w.heap.size w W->∀(i k:Nat) (hi:i<l.length) (hk:k<l.length),Calls Tryz.prog 54 #[.int .i64 (i:Int),.int .i64 (k:Int),.pointer (some ⟨X,0,none⟩)] W fun r w'=>r=.returned (.int .i64 (ordT l[i] l[k]))/\∃q,w'=W.drewN q):
  Calls Tryz.prog 87 #[.slice (some ⟨B,0,none⟩) N N,.func (.func 54) #[] #[.pointer (some ⟨X,0,none⟩)]] w0 fun r w'=>r=.returned (.tuple #[])/\∃ps:List Nat,ps.length=N/\(∀q (h:q<ps.length),ps[q]<N/\w'.cell? ⟨B,q,none⟩=some (.int .i64 (ps[q]:Int)))/\(ps.map fun q=>l.getD q nullT)=srtT l/\Below w.heap.size w w':=by
 by_cases hz:N=0
 ·subst hz
  refine(od_stab0 B _ _ w0).mono ?_;rintro r w' ⟨h1,rfl⟩;obtain rfl:=List.eq_nil_of_length_eq_zero hN.symm;exact⟨h1,[],rfl,fun q h=>absurd h (Nat.not_lt_zero _),rfl,hw⟩
 ·obtain⟨n,hs⟩:∃n,N=n+1:=⟨N-1,by omega⟩
  have hn:l.length=n+1:=by omega
  have hH:Holds encF w0 B 0 (plc12 n):=by rw[hs]at hP;exact hP.holds
  have hlt:B<w0.heap.size:=by obtain⟨cs,h1,_⟩:=hP;exact(gZ h1)
  have hcmp:CmpLays1 Tryz.prog 54 #[.pointer (some ⟨X,0,none⟩)] encF (cfO l hn) B 0 (plc12 n).size w0:=fun m os dk _ x y=>by
   have hb:Below w.heap.size w (sortWorld encF w0 B 0 m dk os):=hw.trans ((sw_below encF w0 B 0 m dk os hw.size hB));refine(hcl _ hb x.val y.val (by omega) (by omega)).mono ?_;rintro e W' ⟨h1,q,rfl⟩;exact⟨h1,q,#[],(grow_empty _).symm⟩
  have h:=od_stable l hn hs h12 w0 (enters_of Tryz.func54 (by kernel_rfl) rfl) (cap:=N) hH hlt hcmp;have HS:=iH h;have HFI:Hid (∀d w',PermIn 0 (n+1) (plc12 n) d/\SortedIn (ltOf (cfO l hn)) 0 (n+1) d/\SW encF w0 B 0 d w'->∃ps:List Nat,ps.length=N/\(∀q (h:q<ps.length),ps[q]<N/\w'.cell? ⟨B,q,none⟩=some (.int .i64 (ps[q]:Int)))/\(ps.map fun q=>l.getD q nullT)=srtT l/\Below w.heap.size w w'):=fun d w' ⟨h1,h2,h3⟩=>by
   have hsz:d.size=n+1:=h1.1.trans (plc12_size n);refine⟨d.toList.map (·.val),by rw[List.length_map,Array.length_toList,hsz,hs],fun q h=> ?_,?_,?_⟩
   ·rw[List.length_map,Array.length_toList]at h
    have hc:=h3.c1 ⟨fun _=>rfl,hH,hlt⟩ (by rw[hsz,plc12_size]) q h;rw[Nat.zero_add,getElem!_pos d q h]at hc;rw[List.getElem_map,Array.getElem_toList];exact⟨by have:=d[q].isLt;omega,hc⟩
   ·rw[List.map_map,<-laid_sorted l hn hgd d h1 h2]
    apply List.map_congr_left;intro i _;simp only[Function.comp];rw[List.getD_eq_getElem?_getD,List.getElem?_eq_getElem (by omega)];rfl
   ·obtain⟨m,os,rfl⟩:=h3
    exact hw.trans (sw_below encF w0 B 0 m d os hw.size hB)
  clear h hcmp hH hlt hcl hP hw hz hs hN h12;go_enter Tryz.func87,Tryz.ntmps87;go_wp2_with (go_at_call 112;(with_reducible refine(HS.out).mono ?_);rintro r w1 ⟨rfl,d,hd⟩;have HD:=iH hd;clear hd)
  go_end0;exact⟨rfl,HFI.out d _ HD.out⟩
theorem od_laid (l:List Tr) (v:Value) (w:World) (X:Nat) (hv:VaLs (fun _=>True) w v l) (hlen:l.length<=12) (hgd:∀x∈l,Good x)
  (hcl:∀W,Below w.heap.size w W->∀(i k:Nat) (hi:i<l.length) (hk:k<l.length),Calls Tryz.prog 54 #[.int .i64 (i:Int),.int .i64 (k:Int),.pointer (some ⟨X,0,none⟩)] W fun r w'=>r=.returned (.int .i64 (ordT l[i] l[k]))/\∃q,w'=W.drewN q):
  Calls Tryz.prog 53 #[v,.func (.func 54) #[] #[.pointer (some ⟨X,0,none⟩)]] w fun r w'=>∃u,r=.returned u/\VaNew w.heap.size (fun g=>g<w.heap.size) w' u (srtT l)/\Below w.heap.size w w':=by
 obtain⟨ad,cap,b,oo,rfl,hmax,ha,hr⟩:=hv;obtain⟨N,hN⟩:∃N,N=l.length:=⟨_,rfl⟩
 rw[<-hN];have hn4:(N:Int)<=12:=by omega
 have HNL:Hid (N=l.length/\N<=12):=⟨hN,by omega⟩
 have HA:=iH ha;have HR:=iH hr;have HGD:=iH hgd;have HCL:=iH hcl;clear hN hr ha hmax hlen hgd hcl;go_enter Tryz.func53,Tryz.ntmps53;go_wp2_with (refine ints_full rfl _ _ rfl .i64 .i64 N rfl rfl (by have:=HNL.out;omega) ?_;intro w3 cs3 h3 hs3 hb3;have HP3:Hid (Plc12 w.heap.size N 0 w3):=⟨cs3,h3,hs3,fun q h=>absurd h (Nat.not_lt_zero _)⟩;have HB3:=iH hb3;clear h3 hs3 hb3)
 obtain⟨B,hB⟩:∃B,B=w.heap.size:=⟨_,rfl⟩
 rw[<-hB]at HP3 ⊢;have HBE:=iH hB;clear hB;go_loopw [15] (fun i W=>∃j:Nat,j<=N/\i=.int .i64 (j:Int)/\Hid (Plc12 B N j W)/\Hid (Below w.heap.size w W)) (fun i _=>N-(intOf i).toNat)
 case atStart=>exact⟨0,Nat.zero_le _,rfl,HP3.out,HB3.out⟩
 case round=>
  clear HP3 HB3
  rename World=>wo
  obtain⟨j,hj,rfl,HP,HW⟩:=hrel;by_cases hlt:j<N
  case pos=>
   have hlt':(j:Int)<(N:Int):=by omega
   have i0:(0:Int)<=(j:Int):=by omega
   obtain⟨cs,hc1,hc2,hc3⟩:=HP.out;have HC:=iH hc1;have HC2:=iH hc2;have HC3:=iH hc3;have HLT:=iH hlt;clear hlt hc1 hc2 hc3 HP;go_wp2_with (refine st_cell rfl 3 _ _ rfl B j (.int .i64 (j:Int)) rfl rfl rfl 3 cs HC.out int_size12 (by have:=HC2.out;have:=HLT.out;omega) ?_;intro w9 h9 k9;have HP9:Hid (Plc12 B N (j+1) w9):=Plc12.put HC2.out HC3.out HLT.out h9;have HB9:=iH (HW.out.trans (k9.below (by rw[HBE.out];exact Nat.le_refl _)));clear h9 k9)
   go_roundw
   case rel=>exact⟨j+1,by have:=HLT.out;omega,by go_num,HP9.out,HB9.out⟩
   case measure=>have:=HLT.out;simp[intOf];omega
  obtain rfl:j=N:=by omega
  clear hj hlt;have HST:=iH (od_stabN l j B X w wo HNL.out.1 HNL.out.2 HGD.out HW.out (by rw[HBE.out];exact Nat.le_refl _) HP.out HCL.out);clear HP HCL HW HGD;go_upto_region 8 with(go_at_call 87;(with_reducible refine(HST.out).mono ?_);rintro r w1 ⟨rfl,ps,p1,p2,p3,hb⟩;have HPS:=iH (And.intro p1 (And.intro p2 p3));have HB1:=iH hb;clear p1 p2 p3 hb)
  go_wp2_with (refine rowsW_make (B:=w1.heap.size) (by_:=40) (z:=(.agg #[.int .i64 0,.int .i64 0,.string ⟨#[]⟩,.pointer none])) rfl 52 35 _ _ rfl Tryz.underlying52 vl_info12 .i64 .i64 _ j rfl rfl rfl (by have:=HNL.out;omega) (by decide) (Nat.le_refl _) ?_;intro w3 h3 hb3;have HV3:Hid (VaNew w1.heap.size (fun g=>g<w.heap.size) w3 (.slice (some ⟨w1.heap.size,0,none⟩) 0 j) []):=VaNew.none h3;have HB3:=iH hb3;clear h3 hb3)
  go_loopw [7,31] (fun a7 i W=>∃(k:Nat) (iv:Value),k<=j/\i=.int .i64 (k:Int)/\iv=a7/\Hid (VaNew w1.heap.size (fun g=>g<w.heap.size) W iv ((srtT l).take k))/\Hid (Below w1.heap.size w1 W)) (fun _ i _=>j-(intOf i).toNat)
  case atStart=>exact⟨0,_,Nat.zero_le _,rfl,rfl,HV3.out,HB3.out⟩
  case round=>
   clear HV3 HB3;obtain⟨k,iv,hk,rfl,rfl,HV,HW⟩:=hrel;by_cases hlt:k<j
   case neg=>
    obtain rfl:k=j:=by omega
    have hfin:=HV.out;rw[List.take_of_length_le (by rw[srtT_len,<-HNL.out.1];exact Nat.le_refl _)]at hfin;have HFIN:=iH (hfin.low HB1.out.size);clear hfin;go_wp2_with fail
    go_ret;exact⟨_,rfl,HFIN.out,tW HB1.out HW.out⟩
   have hlt':(k:Int)<(j:Int):=by omega
   have i0:(0:Int)<=(k:Int):=by omega
   have hkp:k<ps.length:=by rw[HPS.out.1];exact hlt
   have hB1:B<w1.heap.size:=World.block_lt_of_cell? w1 _ (HPS.out.2.1 k hkp).2;have c1:wr.cell? ⟨B,k,none⟩=some (.int .i64 (ps[k]:Int)):=(HW.out.cell (p:=⟨B,k,none⟩) hB1).trans (HPS.out.2.1 k hkp).2;have hpl:=(HPS.out.2.1 k hkp).1;have hks:k<(srtT l).length:=by rw[srtT_len,<-HNL.out.1];exact hlt
   have hel:(srtT l)[k]=l.getD ps[k] nullT:=by
    have h:=HPS.out.2.2;have h2:(ps.map fun q=>l.getD q nullT)[k]? =(srtT l)[k]? :=by rw[h]
    rw[List.getElem?_map,List.getElem?_eq_getElem hkp,List.getElem?_eq_getElem hks]at h2;exact(Option.some.inj h2).symm
   have hnx:(srtT l).take (k+1)=(srtT l).take k++[l.getD ps[k] nullT]:=by rw[List.take_succ_eq_append_getElem hks,hel]
   obtain⟨p,hp⟩:∃p,p=ps[k]:=⟨_,rfl⟩
   rw[<-hp]at c1 hpl hnx;have hplL:p<l.length:=by rw[<-HNL.out.1];exact hpl
   rw[List.getD_eq_getElem?_getD,List.getElem?_eq_getElem hplL,Option.getD_some]at hnx;obtain rfl:=HA.out (by omega);obtain⟨y,hy0,hy1,hrg⟩:=HR.out p hplL;have hwW:Below w.heap.size w wr:=tW HB1.out HW.out;have HRG:=iH (rangeAt_later hrg hwW);have HY0:=iH hy0;have HY1:Hid (VAt (fun g=>g<w.heap.size) wr l[p] y):=(hy1.old.weak (S':=fun g=>g<w.heap.size) fun _ h=>h.2).low hwW;obtain⟨x,hx⟩:∃x,x=l[p]:=⟨_,rfl⟩
   rw[<-hx]at HY0 HY1 hnx;have HNX:=iH hnx;have HTL:Hid (((srtT l).take k).length<=50000):=by show _<=_;rw[List.length_take];have:=HNL.out;omega
   have p0:(0:Int)<=(p:Int):=by omega
   have p1:(p:Int)<(j:Int):=by omega
   have HLT:=iH hlt;clear hlt hkp hB1 hpl hks hel hp hplL hy0 hy1 hrg hwW hx hnx;go_wp2_with (first
    |(refine ld_val12 (by rfl) _ rfl b (oo+p*4) rfl (celC y) HRG.out rfl ?_)
    |(refine bs_list rfl 52 35 _ rfl (celC y) 4 (.agg #[.int .i64 0,.int .i64 0,.string ⟨#[]⟩,.pointer none]) rfl rfl (by decide) (by decide) Tryz.underlying52 vl_info13 ?_;intro wl hl hbl hzl;have HL:=iH hl;have HVL:=iH (HV.out.later hbl);have HYL:=iH (HY1.out.later hbl);have HWL:=iH (tW HW.out hbl);clear hl hbl hzl)
    |(refine vaNew_wp rfl _ _ rfl rfl HVL.out (by intro g hg;have:=HB1.out.size;omega) HWL.out.size HTL.out wr.heap.size _ rfl HL.out HY0.out HYL.out ?_;intro v9 w9 hv9 hb9 _ _;have HV9:=iH hv9;have HB9:=iH (HWL.out.trans (hb9.mono (Nat.le_refl _)));clear hv9 hb9))
   go_roundw
   case rel=>exact⟨k+1,_,by have:=HLT.out;omega,by go_num,rfl,by rw[HNX.out];exact HV9.out,HB9.out⟩
   case measure=>have:=HLT.out;simp[intOf];omega
theorem od_Sort (l:List Tr) (v:Value) (w:World) (hv:VaLs (fun _=>True) w v l) (hlen:l.length<=12) (hvb:∀x∈l,ValB x) (hT:Tab6 w):
  Calls Tryz.prog 23 #[v] w fun r w'=>∃u,r=.returned u/\VaNew w.heap.size (fun g=>g<w'.heap.size) w' u (srtT l)/\VaLs (fun _=>True) w' v l/\Below w.heap.size w w':=by
 have HKO:=iH (od_keysOf l v w hv (by omega) hT);have HV:=iH hv;have HGD:Hid (∀x∈l,Good x):=fun x hx=>(hvb x hx).1.1
 have HLN:=iH hlen;clear hv hvb hT hlen;go_enter Tryz.func23,Tryz.ntmps23;go_upto_region 2 with(go_at_call 52;(with_reducible refine(HKO.out).mono ?_);rintro r w1 ⟨u,rfl,hu,hb⟩;obtain⟨ua,uc,rfl⟩:=hu.shape';have HU:=iH hu;have HB:=iH hb;clear hu hb)
 obtain⟨u,hu⟩:∃u,u=Value.slice ua (keyR l).length uc:=⟨_,rfl⟩
 rw[<-hu]at HU ⊢;obtain⟨X,hX⟩:∃X,X=w1.heap.size:=⟨_,rfl⟩
 obtain⟨w2,hw2⟩:∃w2,w2=w1.alloc (.cells #[u] 25):=⟨_,rfl⟩
 have hb2:Below w1.heap.size w1 w2:=by rw[hw2];exact Below.newly' _ _
 have hx2:w2.heap[X]? =some (.cells #[u] 25 (0,0)):=by rw[hw2,hX];exact heap_alloc_last _ _
 have hbw:Below w.heap.size w w2:=tW HB.out hb2;have hu2:=HU.out.later hb2;have HLA:=iH (od_laid l v w2 X (HV.out.later hbw) HLN.out HGD.out (fun W hW i k hi hk=>od_Sort1 l X u W (kW hW hx2) (hu2.later hW) i k hi hk (by have:=HLN.out;omega)));have HB2:=iH hbw;rw[<-hw2,<-hX];clear hw2 hX hb2 hx2 hbw hu2 HU hu HKO HB;go_wp2_with (go_at_call 53;(with_reducible refine(HLA.out).mono ?_);rintro r w3 ⟨y,rfl,hy,hb⟩;have HY:=iH hy;have HB3:=iH hb;clear hy hb)
 go_ret;have hbb:=tW HB2.out HB3.out;exact⟨_,rfl,(HY.out.low HB2.out.size).weak fun g hg=>Nat.lt_of_lt_of_le hg HB3.out.size,HV.out.later hbb,hbb⟩
theorem od_Merge1 {B B':Nat} (l m:List Tr) (X Y:Nat) (u v:Value) (W:World) (hX:W.heap[X]? =some (.cells #[u] 25 (0,0))) (hY:W.heap[Y]? =some (.cells #[v] 25 (0,0))) (hu:RowsOwn B 9 1 u (keyR l) W) (hv:RowsOwn B' 9 1 v (keyR m) W) (i k:Nat) (hi:i<l.length) (hk:k<m.length) (hl:l.length<=90000) (hm:m.length<=90000):
  Calls Tryz.prog 59 #[.int .i64 (i:Int),.int .i64 (k:Int),.pointer (some ⟨X,0,none⟩),.pointer (some ⟨Y,0,none⟩)] W fun r w'=>r=.returned (.bool (decide (ordT l[i] m[k]<=0)))/\∃q,w'=W.drewN q:=by
 obtain⟨g,o,c,rfl,hc⟩:=keyR_cell hu (by omega);obtain⟨g',o',c',rfl,hc'⟩:=keyR_cell hv (by omega);have c0:W.cell? ⟨X,0,none⟩=some (.slice (some ⟨g,o,none⟩) l.length c):=cell_in hX rfl;have c0':W.cell? ⟨Y,0,none⟩=some (.slice (some ⟨g',o',none⟩) m.length c'):=cell_in hY rfl;have c1:=hc i hi;have c2:=hc' k hk;obtain⟨ki,hki⟩:∃q,q=kB l[i]:=⟨_,rfl⟩
 obtain⟨kk,hkk⟩:∃q,q=kB m[k]:=⟨_,rfl⟩
 obtain⟨n,hn⟩:∃q,q=ordT l[i] m[k]:=⟨_,rfl⟩
 have HO:Hid (∀W,Calls Tryz.prog 40 #[.string ki,.string kk] W fun e w'=>e=.returned (.int .i64 n)/\W=w'):=fun W=>by
  have h:=q_Order ki kk W;rw[hki,hkk,kB_data,kB_data]at h;rw[hn,hki,hkk];exact h
 rw[<-hn];rw[<-hki]at c1;rw[<-hkk]at c2;obtain⟨N,hN⟩:∃N,N=l.length:=⟨_,rfl⟩
 obtain⟨M,hM⟩:∃M,M=m.length:=⟨_,rfl⟩
 rw[<-hN]at c0 hi hl;rw[<-hM]at c0' hk hm;have i0:(0:Int)<=(i:Int):=by omega
 have k0:(0:Int)<=(k:Int):=by omega
 have i1:(i:Int)<(N:Int):=by omega
 have k1:(k:Int)<(M:Int):=by omega
 have n1:(N:Int)<=90000:=by omega
 have m1:(M:Int)<=90000:=by omega
 clear hki hkk hn hN hM hX hY hu hv hc hc' hi hk hl hm;go_enter Tryz.func59,Tryz.ntmps59;go_upto_region 1 with fail
 go_quiet (first|(go_at_call 40;exact Calls.quiet_of_same ((HO.out _).mono fun _ _ h=>⟨h.1,h.2.symm⟩)))
 go_wp2_with fail
 go_ret;exact⟨rfl,_,rfl⟩
theorem val_elem (w:World):(sizeOf (Tryz.prog.elem 52)).run Tryz.prog w=.ok 4 w:=by kernel_rfl
theorem val_under:Tryz.prog.underlying 52=some (.slice (Tryz.prog.elem 52)):=by kernel_rfl
theorem VaLs.rows {S:Nat->Prop} {w:World} {v:Value} {l:List Tr} (h:VaLs S w v l):∃ys:List Cel,ys.length=l.length/\CutAt (fun _=>True) w 4 v ((ys.map celC).flatMap Array.toList) l.length/\∀j (h:j<l.length) (h':j<ys.length),ValB l[j]/\VAt S w l[j] ys[j]:=by
 obtain⟨a,c,b,o,rfl,⟨hm,hc,hd⟩,ha,hr⟩:=h;have hx:∃ys:List Cel,ys.length=l.length/\∀j (h:j<l.length) (h':j<ys.length),(ValB l[j]/\VAt S w l[j] ys[j])/\w.rangeAt b (o+j*4) (celC ys[j]).toList:=by
  have hn:∀n,n<=l.length->∃ys:List Cel,ys.length=n/\∀j (h:j<n) (h':j<ys.length) (h2:j<l.length),(ValB l[j]/\VAt S w l[j] ys[j])/\w.rangeAt b (o+j*4) (celC ys[j]).toList:=by
   intro n;induction n with
   |zero=>exact fun _=>⟨[],rfl,fun j h=>absurd h (Nat.not_lt_zero _)⟩
   |succ n ih=>
    intro hn;obtain⟨ys,e,h⟩:=ih (by omega);obtain⟨y,q0,q1,q2⟩:=hr n (by omega);refine⟨ys++[y],by rw[List.length_append,e];rfl,fun j h1 h2 h3=> ?_⟩;rcases Nat.lt_or_ge j n with hj|hj
    ·rw[List.getElem_append_left (by omega)]
     exact h j hj (by omega) h3
    ·obtain rfl:j=n:=by omega
     have e2:(ys++[y])[j]=y:=by
      rw[List.getElem_append_right (by omega)];simp
     rw[e2];exact⟨⟨q0,q1⟩,q2⟩
  obtain⟨ys,e,h⟩:=hn _ (Nat.le_refl _);exact⟨ys,e,fun j h1 h2=>h j h1 h2 h1⟩
 obtain⟨ys,e,hy⟩:=hx;have h4:∀c∈ys.map celC,c.size=4:=fun c hc=>by obtain⟨y,_,rfl⟩:=List.mem_map.1 hc;rfl
 have hfl:((ys.map celC).flatMap Array.toList).length=l.length*4:=by rw[flat_len' 4 _ h4,List.length_map,e]
 refine⟨ys,e,?_,fun j h1 h2=>(hy j h1 h2).1⟩;refine⟨a,c,rfl,hc,hfl,hd.imp_right fun hd=>⟨b,o,hd.1,trivial,hd.2,fun j u hu=> ?_⟩⟩;have hj:j<l.length*4:=by rw[<-hfl];exact(List.getElem?_eq_some_iff.1 hu).1
 have hq:j/4<ys.length:=by omega
 have h1:=flat_get 4 (ys.map celC) (j/4) (j % 4) (celC ys[j/4]) h4 (by rw[List.getElem?_map,List.getElem?_eq_getElem hq];rfl) (by omega);rw[show j/4*4+j % 4=j by omega,hu]at h1;have h2:=(hy (j/4) (by omega) hq).2 (j % 4) u (by rw[Array.getElem?_toList];exact h1.symm);rw[show o+j/4*4+j % 4=o+j by omega]at h2;exact h2
def MgS (A B:List Tr) (i k:Nat) (out:List Tr):Prop:=out++mrg (A.drop i) (B.drop k)=mrg A B/\out.length=i+k/\i<=A.length/\k<=B.length
theorem MgS.left {A B:List Tr} {i k:Nat} {out:List Tr} (h:MgS A B i k out) (hi:i<A.length) (hk:k<B.length) (ho:ordT A[i] B[k]<=0):MgS A B (i+1) k (out++[A[i]]):=by
 obtain⟨h1,h2,h3,h4⟩:=h;refine⟨?_,by rw[List.length_append,List.length_singleton];omega,by omega,h4⟩;rw[<-h1,List.drop_eq_getElem_cons hi,List.drop_eq_getElem_cons hk,mrg_left ho,List.append_assoc];rfl
theorem MgS.right {A B:List Tr} {i k:Nat} {out:List Tr} (h:MgS A B i k out) (hk:k<B.length) (ho:∀hi:i<A.length,¬ordT A[i] B[k]<=0):MgS A B i (k+1) (out++[B[k]]):=by
 obtain⟨h1,h2,h3,h4⟩:=h;refine⟨?_,by rw[List.length_append,List.length_singleton];omega,h3,by omega⟩;rw[<-h1,List.drop_eq_getElem_cons hk,List.append_assoc];by_cases hi:i<A.length
 ·rw[List.drop_eq_getElem_cons hi,mrg_right (ho hi)]
  rfl
 ·rw[List.drop_of_length_le (by omega),mrg_nil,mrg_nil]
  rfl
theorem MgS.fin {A B:List Tr} {i:Nat} {out:List Tr} (h:MgS A B i B.length out):out++A.drop i=mrg A B:=by
 have h1:=h.1;rw[List.drop_length,mrg_none]at h1;exact h1
theorem drewN_below (n:Nat) (W:World) (q:Nat):Below n W (W.drewN q):=⟨rfl,rfl,rfl,Nat.le_refl _,fun _ _=>rfl⟩
theorem vaNew_more {ops:Array Oper} {rest:List Oper} {o:Oper} {a:Act} {Q:Exit->Act->World->Prop} {W:World} (hgd:o.guard=none) (p q:Operand)
  (ho:o.op=.call {callee:=.builtin .append,args:=#[p,q],argTypes:=#[52,52]}) {n0:Nat} {S:Nat->Prop} {v vr:Value} {L M:List Tr} {zs:List Cel} (hs:a.eval p=v) (hv:VaNew n0 S W v L) (hS:∀g,S g->g<n0) (hn:n0<=W.heap.size) (hlen:L.length+M.length<=50000)
  {n:Nat} (hq:a.eval q=vr) (hz:zs.length=M.length) (hnM:n=M.length) (hc:CutAt (fun _=>True) W 4 vr ((zs.map celC).flatMap Array.toList) n) (hm:∀j (h:j<M.length) (h':j<zs.length),ValB M[j]/\VAt S W M[j] zs[j])
  (h:∀v' w',VaNew n0 S w' v' (L++M)->Below n0 W w'->wpList Tryz.prog ops Q rest (a.put o.dst v') w'):wpList Tryz.prog ops Q (o::rest) a W:=
 wpList_plain hgd fun _ hK=>by
  obtain⟨ys,h1,h2,h3,h4⟩:=hv;refine rowsC_wp 52 35 p q ho (by_:=40) (z:=(.agg #[.int .i64 0,.int .i64 0,.string ⟨#[]⟩,.pointer none])) (ds:=zs.map celC) hs h2 hq hc ⟨by rw[List.length_map,hz,hnM],fun c hc=>by obtain⟨y,_,rfl⟩:=List.mem_map.1 hc;rfl⟩ (oneC fun c hc=>by obtain⟨y,_,rfl⟩:=List.mem_map.1 hc;exact celC_one y) Tryz.underlying52 vl_info12 rfl (by decide) (by rw[List.length_map,List.length_map];omega) (by decide) ?_;intro v' w' r1 r2;have hb:Below n0 W w':=own_below h2.own r2 (Nat.le_refl _) hn;have hlow:∀(t:Tr) (c:Cel),VAt S W t c->VAt S w' t c:=fun t c ht=>ht.kq (Kq.low hb hS)
  refine hK _ _ (h v' w' ⟨ys++zs,by rw[List.length_append,List.length_append,h1,hz],by rw[List.map_append];exact r1,by rw[List.length_append];omega,fun j q1 q2=> ?_⟩ hb);rw[List.length_append]at q1 q2;rcases Nat.lt_or_ge j L.length with hj|hj
  ·rw[List.getElem_append_left hj,List.getElem_append_left (by omega)]
   exact⟨(h4 j hj (by omega)).1,hlow _ _ (h4 j hj (by omega)).2⟩
  ·have e:j-L.length=j-ys.length:=by rw[h1]
   rw[List.getElem_append_right hj,List.getElem_append_right (by omega)];have h5:=hm (j-L.length) (by omega) (by omega);refine⟨h5.1,?_⟩;have h6:=hlow _ _ h5.2;simpa only[e]using h6
theorem od_merged (A B:List Tr) (va vb:Value) (w:World) (X Y:Nat) (hva:VaLs (fun _=>True) w va A) (hvb:VaLs (fun _=>True) w vb B) (hA:A.length<=20000) (hB:B.length<=20000)
  (hcl:∀W,Below w.heap.size w W->∀(i k:Nat) (hi:i<A.length) (hk:k<B.length),Calls Tryz.prog 59 #[.int .i64 (i:Int),.int .i64 (k:Int),.pointer (some ⟨X,0,none⟩),.pointer (some ⟨Y,0,none⟩)] W fun r w'=>r=.returned (.bool (decide (ordT A[i] B[k]<=0)))/\∃q,w'=W.drewN q):
  Calls Tryz.prog 58 #[va,vb,.func (.func 59) #[] #[.pointer (some ⟨X,0,none⟩),.pointer (some ⟨Y,0,none⟩)]] w fun r w'=>∃u,r=.returned u/\VaNew w.heap.size (fun g=>g<w.heap.size) w' u (mrg A B)/\Below w.heap.size w w':=by
 obtain⟨xs,hxl,hxc,hxv⟩:=hva.rows;obtain⟨ad,cap,b,oo,rfl,hmax,ha,hr⟩:=hva;obtain⟨ad',cap',b',oo',rfl,hmax',ha',hr'⟩:=hvb;obtain⟨N,hN⟩:∃N,N=A.length:=⟨_,rfl⟩
 obtain⟨M,hM⟩:∃M,M=B.length:=⟨_,rfl⟩
 rw[<-hN]at hxc;rw[<-hN,<-hM];have hn4:(N:Int)<=20000:=by omega
 have hm4:(M:Int)<=20000:=by omega
 have HNM:Hid (N=A.length/\M=B.length/\N<=20000/\M<=20000):=⟨hN,hM,by omega,by omega⟩
 have HXS:=iH (And.intro hxl (And.intro hxc hxv));have HA:=iH ha;have HR:=iH hr;have HA':=iH ha';have HR':=iH hr';have HCL:=iH hcl;have hsum:IntKind.i64.wrap ((N:Int)+(M:Int))=((N+M:Nat):Int):=by rw[IntKind.wrap_i64]<;>omega
 clear hN hM ha hr ha' hr' hxl hxc hxv hcl hmax hmax' hA hB;go_enter Tryz.func58,Tryz.ntmps58;go_wp2_with (refine rowsW_make (B:=w.heap.size) (by_:=40) (z:=(.agg #[.int .i64 0,.int .i64 0,.string ⟨#[]⟩,.pointer none])) rfl 52 35 _ _ rfl Tryz.underlying52 vl_info12 .i64 .i64 _ (N+M) rfl rfl (by omega) (by have:=HNM.out;omega) (by decide) (Nat.le_refl _) ?_;intro w3 h3 hb3;have HV3:Hid (VaNew w.heap.size (fun g=>g<w.heap.size) w3 (.slice (some ⟨w.heap.size,0,none⟩) 0 (N+M)) []):=VaNew.none h3;have HB3:=iH hb3;clear h3 hb3)
 clear hsum;have HMG3:Hid (MgS A B 0 0 []):=⟨rfl,rfl,Nat.zero_le _,Nat.zero_le _⟩
 go_loopw [7,8,19] (fun a7 a8 a19 W=>∃(i k:Nat) (iv:Value) (out:List Tr),i<=N/\k<=M/\a8=.int .i64 (i:Int)/\a19=.int .i64 (k:Int)/\iv=a7/\Hid (MgS A B i k out)/\Hid (VaNew w.heap.size (fun g=>g<w.heap.size) W iv out)/\Hid (Below w.heap.size w W)) (fun _ _ a19 _=>M-(intOf a19).toNat)
 case atStart=>exact⟨0,0,_,[],Nat.zero_le _,Nat.zero_le _,rfl,rfl,rfl,HMG3,HV3,HB3⟩
 case round=>
  clear HMG3 HV3 HB3
  rename World=>wo
  obtain⟨i,k,iv,out,hi,hk,rfl,rfl,rfl,HMG,HV,HW⟩:=hrel;by_cases hlt:k<M
  case neg=>
   obtain rfl:k=M:=by omega
   have hi':i<=A.length:=by rw[<-HNM.out.1];exact hi
   have hxr:=HXS.out.2.1;obtain⟨a3,c3,hi3,hi3r⟩:=cut_l 52 (P:=Tryz.prog) val_under val_elem hxr hi;have h4:∀c∈xs.map celC,c.size=4:=fun c hc=>by obtain⟨y,_,rfl⟩:=List.mem_map.1 hc;rfl
   rw[flat_drop' 4 _ i h4,<-List.map_drop]at hi3;have HCT:=iH (fun W (hb:Below w.heap.size w W)=>hi3.later hb);have HZV:Hid (∀W,Below w.heap.size w W->∀j (h:j<(A.drop i).length) (h':j<(xs.drop i).length),ValB (A.drop i)[j]/\VAt (fun g=>g<w.heap.size) W (A.drop i)[j] (xs.drop i)[j]):=fun W hb j h h'=>by
    rw[List.getElem_drop,List.getElem_drop];rw[List.length_drop]at h h';have h5:=HXS.out.2.2 (i+j) (by omega) (by omega);exact⟨h5.1,(h5.2.old.weak (S':=fun g=>g<w.heap.size) fun _ h=>h.2).low hb⟩
   have HFI:=iH (HMG.out);have hfi:MgS A B i B.length out:=by have h:=HMG.out;rwa[HNM.out.2.1]at h
   have HFN:=iH hfi.fin;have HOL:Hid (out.length+(A.drop i).length<=50000):=by show _<=_;rw[List.length_drop,HMG.out.2.1];have:=HNM.out;omega
   have HZL:Hid ((xs.drop i).length=(A.drop i).length):=by show _=_;rw[List.length_drop,List.length_drop,HXS.out.1]
   have HZN:Hid (N-i=(A.drop i).length):=by show _=_;rw[List.length_drop,HNM.out.1]
   clear hi3 h4 hfi hxr hi';go_wp2_with (refine vaNew_more rfl _ _ rfl rfl HV.out (fun g hg=>hg) HW.out.size HOL.out rfl HZL.out HZN.out (HCT.out _ HW.out) (HZV.out _ HW.out) ?_;intro v9 w9 hv9 hb9;have HV9:=iH hv9;have HB9:=iH (HW.out.trans (hb9.mono (Nat.le_refl _)));clear hv9 hb9)
   go_ret;exact⟨_,rfl,by rw[<-HFN.out];exact HV9.out,HB9.out⟩
  have hlt':(k:Int)<(M:Int):=by omega
  have k0:(0:Int)<=(k:Int):=by omega
  have hkB:k<B.length:=by rw[<-HNM.out.2.1];exact hlt
  obtain rfl:=HA'.out (by omega);obtain⟨z,hz0,hz1,hrg⟩:=HR'.out k hkB;have HRG:=iH (rangeAt_later hrg HW.out);have HZ0:=iH hz0;have HZ1:Hid (∀W,Below w.heap.size w W->VAt (fun g=>g<w.heap.size) W B[k] z):=fun W hb=>(hz1.old.weak (S':=fun g=>g<w.heap.size) fun _ h=>h.2).low hb
  have HLT:=iH hlt;have HKB:=iH hkB;clear hz0 hz1 hrg hlt;go_upto_region 6 with(first
   |(refine ld_val12 (by rfl) _ rfl b' (oo'+k*4) rfl (celC z) HRG.out rfl ?_)
   |(refine st_agg rfl 35 _ _ rfl wo.heap.size (celC z) rfl rfl 35 #[.int .i64 0,.int .i64 0,.string ⟨#[]⟩,.pointer none] (heap_alloc_last _ _) val_size rfl (celC_one z) ?_;intro w8 h8 k8))
  have hb8:Below wo.heap.size wo w8:=(Below.newly' _ _).trans (k8.below (Nat.le_refl _));have hb8w:=tW HW.out hb8;obtain⟨Q,hQ⟩:∃Q,Q=wo.heap.size:=⟨_,rfl⟩
  rw[<-hQ]at h8 ⊢;have HV8:=iH (HV.out.later hb8);have HW8:=iH hb8w;have H8:Hid (∀W,Below w8.heap.size w8 W->W.heap[Q]? =some (.cells (celC z) 35 (0,0))):=fun W hb=>kW hb h8
  have HNQ:Hid (iv.ownBlock≠some Q):=fun e=>by have:=HV.out.lt e;omega
  clear hQ h8 k8 hb8 hb8w HV HW HRG;go_loopw [7,8] (fun a7 a8 W=>∃(i:Nat) (iv:Value) (out:List Tr),i<=N/\a8=.int .i64 (i:Int)/\iv=a7/\Hid (MgS A B i k out)/\Hid (VaNew w.heap.size (fun g=>g<w.heap.size) W iv out)/\Hid (iv.ownBlock≠some Q)/\Hid (Below w.heap.size w W)/\Hid (W.heap[Q]? =some (.cells (celC z) 35 (0,0)))) (fun _ a8 _=>N-(intOf a8).toNat)
  case atStart=>exact⟨i,iv,out,hi,rfl,rfl,HMG.out,HV8.out,HNQ.out,HW8.out,H8.out _ (Below.refl _ _)⟩
  case round=>
   clear hi HMG HV8 HW8 H8
   rename World=>wi
   obtain⟨i,iv,out,hi,rfl,rfl,HMG,HV,HNQ,HW,HQ⟩:=hrel;have HOL:Hid (out.length<=50000):=by show _<=_;rw[HMG.out.2.1];have:=HNM.out;omega
   by_cases hin:i<N
   case pos=>
    have hin':(i:Int)<(N:Int):=by omega
    have i0:(0:Int)<=(i:Int):=by omega
    have hiA:i<A.length:=by rw[<-HNM.out.1];exact hin
    obtain⟨bo,hbo⟩:∃q,q=decide (ordT A[i] (B[k]'HKB.out)<=0):=⟨_,rfl⟩
    have HCC:Hid (Calls Tryz.prog 59 #[.int .i64 (i:Int),.int .i64 (k:Int),.pointer (some ⟨X,0,none⟩),.pointer (some ⟨Y,0,none⟩)] wi fun r w'=>r=.returned (.bool bo)/\∃q,w'=wi.drewN q):=by rw[hbo];exact HCL.out _ HW.out i k hiA HKB.out
    have HBO:=iH hbo;have HIN:=iH hin;have HIA:=iH hiA;clear hbo hin;cases bo with
    |true=>
     obtain rfl:=HA.out (by have:=HIN.out;omega);obtain⟨y,hy0,hy1,hrg⟩:=HR.out i HIA.out;have HRG:Hid (∀W,Below wi.heap.size wi W->W.rangeAt b (oo+i*4) (celC y).toList):=fun W hb=>rangeAt_later (rangeAt_later hrg HW.out) hb
     have HY0:=iH hy0;have HY1:Hid (∀W,Below w.heap.size w W->VAt (fun g=>g<w.heap.size) W (A[i]'HIA.out) y):=fun W hb=>(hy1.old.weak (S':=fun g=>g<w.heap.size) fun _ h=>h.2).low hb
     have HNX:=iH (HMG.out.left HIA.out HKB.out (of_decide_eq_true HBO.out.symm));clear hy0 hy1 hrg;go_wp2_with (first
      |(go_at_call 59;(with_reducible refine(HCC.out).mono ?_);rintro r V ⟨rfl,q,rfl⟩;have hbd:=drewN_below wi.heap.size wi q;have HVd:=iH (HV.out.later hbd);have HWd:=iH (tW HW.out hbd);have HQd:=iH (kW hbd HQ.out);have HRd:=iH (HRG.out _ hbd);clear hbd;generalize wi.drewN q=wd at HVd HWd HQd HRd ⊢)
      |(refine ld_val12 (by rfl) _ rfl b (oo+i*4) rfl (celC y) HRd.out rfl ?_)
      |(refine bs_list rfl 52 35 _ rfl (celC y) 4 (.agg #[.int .i64 0,.int .i64 0,.string ⟨#[]⟩,.pointer none]) rfl rfl (by decide) (by decide) Tryz.underlying52 vl_info13 ?_;intro wl hl hbl hzl;have HL:=iH hl;have HVL:=iH (HVd.out.later hbl);have HWL:=iH (tW HWd.out hbl);have HYL:=iH (HY1.out _ HWL.out);have HQL:=iH (kW hbl HQd.out);clear hl hbl hzl)
      |(refine vaNew_wp rfl _ _ rfl rfl HVL.out (fun g hg=>hg) HWL.out.size HOL.out wd.heap.size _ rfl HL.out HY0.out HYL.out ?_;intro v9 w9 hv9 hb9 hg9 ho9;have HV9:=iH hv9;have HB9:=iH (HWL.out.trans (hb9.mono (Nat.le_refl _)));have HQ9:Hid (w9.heap[Q]? =some (.cells (celC z) 35 (0,0))):=(hg9.block Q (gZ HQL.out) (fun e=>HNQ.out e.symm)).trans HQL.out;have HN9:Hid (v9.ownBlock≠some Q):=(fun e=>by rcases ho9 with h|⟨g,h,hl⟩<;>first|exact HNQ.out (h.symm.trans e)|(rw[h]at e;obtain rfl:=Option.some.inj e;have:=(gZ HQL.out);omega));clear hv9 hb9 hg9 ho9))
     go_roundw
     case rel=>exact⟨i+1,_,_,by have:=HIN.out;omega,by go_num,rfl,HNX.out,HV9.out,HN9.out,HB9.out,HQ9.out⟩
     case measure=>have:=HIN.out;simp[intOf];omega
    |false=>
     have HNX:=iH (HMG.out.right HKB.out (fun _=>of_decide_eq_false HBO.out.symm));go_wp2_with (first
      |(go_at_call 59;(with_reducible refine(HCC.out).mono ?_);rintro r V ⟨rfl,q,rfl⟩;have hbd:=drewN_below wi.heap.size wi q;have HVd:=iH (HV.out.later hbd);have HWd:=iH (tW HW.out hbd);have HQd:=iH (kW hbd HQ.out);clear hbd;generalize wi.drewN q=wd at HVd HWd HQd ⊢)
      |(refine ld_if rfl 35 _ rfl Q rfl 35 _ _ _ HQd.out Tryz.underlying35 rfl val_size ?_)
      |(refine bs_list rfl 52 35 _ rfl (celC z) 4 (.agg #[.int .i64 0,.int .i64 0,.string ⟨#[]⟩,.pointer none]) rfl rfl (by decide) (by decide) Tryz.underlying52 vl_info13 ?_;intro wl hl hbl hzl;have HL:=iH hl;have HVL:=iH (HVd.out.later hbl);have HWL:=iH (tW HWd.out hbl);have HYL:=iH (HZ1.out _ HWL.out);clear hl hbl hzl)
      |(refine vaNew_wp rfl _ _ rfl rfl HVL.out (fun g hg=>hg) HWL.out.size HOL.out wd.heap.size _ rfl HL.out HZ0.out HYL.out ?_;intro v9 w9 hv9 hb9 _ _;have HV9:=iH hv9;have HB9:=iH (HWL.out.trans (hb9.mono (Nat.le_refl _)));clear hv9 hb9))
     go_roundw
     case rel=>exact⟨i,k+1,_,_,hi,by have:=HLT.out;omega,rfl,by go_num,rfl,HNX.out,HV9.out,HB9.out⟩
     case measure=>have:=HLT.out;simp[intOf];omega
   obtain rfl:i=N:=by omega
   have HNX:=iH (HMG.out.right HKB.out (fun h=>by have:=HNM.out;omega));have HVd:=HV;have HWd:=HW;have HQd:=HQ;go_wp2_with (first
    |(refine ld_if rfl 35 _ rfl Q rfl 35 _ _ _ HQd.out Tryz.underlying35 rfl val_size ?_)
    |(refine bs_list rfl 52 35 _ rfl (celC z) 4 (.agg #[.int .i64 0,.int .i64 0,.string ⟨#[]⟩,.pointer none]) rfl rfl (by decide) (by decide) Tryz.underlying52 vl_info13 ?_;intro wl hl hbl hzl;have HL:=iH hl;have HVL:=iH (HVd.out.later hbl);have HWL:=iH (tW HWd.out hbl);have HYL:=iH (HZ1.out _ HWL.out);clear hl hbl hzl)
    |(refine vaNew_wp rfl _ _ rfl rfl HVL.out (fun g hg=>hg) HWL.out.size HOL.out wi.heap.size _ rfl HL.out HZ0.out HYL.out ?_;intro v9 w9 hv9 hb9 _ _;have HV9:=iH hv9;have HB9:=iH (HWL.out.trans (hb9.mono (Nat.le_refl _)));clear hv9 hb9))
   go_roundw
   case rel=>exact⟨i,k+1,_,_,hi,by have:=HLT.out;omega,rfl,by go_num,rfl,HNX.out,HV9.out,HB9.out⟩
   case measure=>have:=HLT.out;simp[intOf];omega
theorem od_Merge (A B:List Tr) (va vb:Value) (w:World) (hva:VaLs (fun _=>True) w va A) (hvb:VaLs (fun _=>True) w vb B) (hA:A.length<=20000) (hB:B.length<=20000) (hT:Tab6 w):
  Calls Tryz.prog 30 #[va,vb] w fun r w'=>∃u,r=.returned u/\VaLs (fun _=>True) w' u (mrg A B)/\Below w.heap.size w w':=by
 have HKA:=iH (od_keysOf A va w hva (by omega) hT);have HKB:=iH (fun W (hb:Below w.heap.size w W)=>od_keysOf B vb W (hvb.later hb) (by omega) (hT.below hb));have HVA:=iH hva;have HVB:=iH hvb;have HLN:=iH (And.intro hA hB);clear hva hvb hT hA hB;go_enter Tryz.func30,Tryz.ntmps30;go_upto_region 2 with(first
  |(go_at_call 52;(with_reducible refine(HKA.out).mono ?_);rintro r w1 ⟨u,rfl,hu,hb⟩;obtain⟨ua,uc,rfl⟩:=hu.shape';have HU:=iH hu;have HB1:=iH hb;clear hu hb)
  |(go_at_call 52;(with_reducible refine(HKB.out _ HB1.out).mono ?_);rintro r w2 ⟨u',rfl,hu,hb⟩;obtain⟨va',vc',rfl⟩:=hu.shape';have HV:=iH hu;have HB2:=iH hb;clear hu hb))
 obtain⟨u,hu⟩:∃u,u=Value.slice ua (keyR A).length uc:=⟨_,rfl⟩
 obtain⟨v,hv⟩:∃v,v=Value.slice va' (keyR B).length vc':=⟨_,rfl⟩
 rw[<-hu]at HU ⊢;rw[<-hv]at HV ⊢;obtain⟨w3,hw3⟩:∃w3,(w2.alloc (.cells #[u] 25)).alloc (.cells #[v] 25)=w3:=⟨_,rfl⟩
 obtain⟨hb3,hx3,hy3,_⟩:=two_new hw3;obtain⟨X,hX⟩:∃X,X=w2.heap.size:=⟨_,rfl⟩
 rw[<-hX]at hx3 hy3;have hb2:=tW HB1.out HB2.out;have hbw:=tW hb2 hb3;have hu3:=(HU.out.later HB2.out).later hb3;have hv3:=HV.out.later hb3;have HMG:=iH (od_merged A B va vb w3 X (X+1) (HVA.out.later hbw) (HVB.out.later hbw) HLN.out.1 HLN.out.2 (fun W hW i k hi hk=>od_Merge1 A B X (X+1) u v W (kW hW hx3) (kW hW hy3) (hu3.later hW) (hv3.later hW) i k hi hk (by have:=HLN.out;omega) (by have:=HLN.out;omega)));have HBW:=iH hbw;rw[hw3,<-hX];clear hw3 hX hb3 hx3 hy3 hb2 hbw hu3 hv3 HU HV hu hv HKA HKB HB1 HB2;go_wp2_with (go_at_call 58;(with_reducible refine(HMG.out).mono ?_);rintro r w4 ⟨y,rfl,hy,hb⟩;have HY:=iH hy;have HB4:=iH hb;clear hy hb)
 go_ret;exact⟨_,rfl,HY.out.vaLs.weak fun _ _=>trivial,tW HBW.out HB4.out⟩
end Go.Proofs.YtengibnpebfblaaGreatDoor
