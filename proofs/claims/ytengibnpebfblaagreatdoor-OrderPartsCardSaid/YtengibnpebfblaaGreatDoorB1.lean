import Derived.Deep.MidRow
import Derived.Deep.RegionHeld
import Derived.Laws.Rows
import Derived.Laws.ShiftsVarLaws
import Derived.Lib.Hide
import Derived.Lib.MinMax
import Derived.Outline
import Derived.Test.YtengibnpebfblaaGreatDoorChecked
import Derived.WalkKit
import Derived.WalkSpells
set_option maxRecDepth 1000000
set_option maxHeartbeats 8000000
namespace Go.Proofs.YtengibnpebfblaaGreatDoor
open Go.RowKit
structure Cel where
 k:Int
 n:Int
 t:ByteArray
 p:Option Addr
def zeroV:Cel:=⟨0,0,⟨#[]⟩,none⟩
abbrev celC (x:Cel):Array Value:=#[.int .i64 x.k,.int .i64 x.n,.string x.t,.pointer x.p]
def enV (x:Cel):List Value:=[.int .i64 x.k,.int .i64 x.n,.string x.t,.pointer x.p]
theorem enV_len (x:Cel):(enV x).length=4:=rfl
theorem enV_one (x:Cel):∀u∈enV x,u.oneCell'=true:=by
 intro u hu;simp only[enV,List.mem_cons,List.not_mem_nil,or_false]at hu;rcases hu with rfl|rfl|rfl|rfl<;>rfl
theorem celC_one (x:Cel):(celC x).all (·.oneCell')=true:=by simp[Value.oneCell']
def stepT (a:Nat):Nat:=a*11400714819323198485 % 18446744073709551616
def rotT (t:Nat):Nat:=t*2147483648 % 18446744073709551616|||t/8589934592
def stepN (h x:Nat):Nat:=(rotT (stepT (h^^^x))+15485907386658061715) % 18446744073709551616
def foldN (h:Nat):Nat:=h^^^h/4294967296
def endN (h:Nat):Nat:=foldN (foldN h*15485907386658061715 % 18446744073709551616)
theorem xor_lt {a b:Nat} (ha:a<18446744073709551616) (hb:b<18446744073709551616):a^^^b<18446744073709551616:=Nat.xor_lt_two_pow (n:=64) ha hb
theorem or_lt {a b:Nat} (ha:a<18446744073709551616) (hb:b<18446744073709551616):a|||b<18446744073709551616:=Nat.or_lt_two_pow (n:=64) ha hb
theorem stepN_lt (h x:Nat):stepN h x<18446744073709551616:=Nat.mod_lt _ (by decide)
theorem foldN_lt {h:Nat} (hh:h<18446744073709551616):foldN h<18446744073709551616:=xor_lt hh (Nat.lt_of_le_of_lt (Nat.div_le_self _ _) hh)
theorem endN_lt (h:Nat):endN h<18446744073709551616:=foldN_lt (Nat.mod_lt _ (by decide))
theorem and_mask (h k:Nat):h&&&(2^k-1)=h % 2^k:=Nat.and_two_pow_sub_one_eq_mod h k
def wd (l:List UInt8):Nat->Nat
 |0=>0
 |k+1=>wd l k|||(l.getD k 0).toNat*2^(8*(7-k))
def hs (seed:Nat) (l:List UInt8):Nat->Nat
 |0=>stepN seed l.length
 |j+1=>stepN (hs seed l j) (wd (l.drop (8*j)) (min (l.length-8*j) 8))
def txtN (seed:Nat) (l:List UInt8):Nat:=endN (hs seed l ((l.length+7)/8))
theorem byte_lt (c:UInt8) (k:Nat) (_:k<=7):c.toNat*2^(8*(7-k))<18446744073709551616:=by
 have hc:c.toNat<256:=c.toNat_lt
 calc c.toNat*2^(8*(7-k))<256*2^(8*(7-k)):=Nat.mul_lt_mul_of_pos_right hc (Nat.two_pow_pos _)
  _<=256*2^56:=Nat.mul_le_mul_left _ (Nat.pow_le_pow_right (by decide) (by omega))
  _=18446744073709551616:=by decide
theorem wd_lt (l:List UInt8):∀k,k<=8->wd l k<18446744073709551616
 |0,_=>Nat.zero_lt_succ _
 |k+1,h=>or_lt (wd_lt l k (by omega)) (byte_lt _ k (by omega))
theorem hs_lt (seed:Nat) (l:List UInt8):∀j,hs seed l j<18446744073709551616
 |0=>stepN_lt _ _
 |_+1=>stepN_lt _ _
theorem u64_mul_nat (a c:Nat):IntKind.u64.wrap ((a:Int)*(c:Int))=((a*c % 18446744073709551616:Nat):Int):=by
 rw[IntKind.wrap_u64,<-Int.natCast_mul];omega
theorem u64_add_nat (a c:Nat):IntKind.u64.wrap ((a:Int)+(c:Int))=(((a+c) % 18446744073709551616:Nat):Int):=by
 rw[IntKind.wrap_u64];omega
theorem div_nat (a c:Nat):(a:Int)/(c:Int)=((a/c:Nat):Int):=(Int.natCast_ediv a c).symm
theorem ret_u64 {x y:Int} (h:x=y):Ending.returned (.int .u64 x)=.returned (.int .u64 y):=by rw[h]
theorem ret_i64 {x y:Int} (h:x=y):Ending.returned (.int .i64 x)=.returned (.int .i64 y):=by rw[h]
theorem rot_nat (t:Nat) (ht:t<18446744073709551616):
  bits .or .u64 (IntKind.u64.wrap ((t:Int)*2147483648)) ((t:Int)/8589934592)=(rotT t:Int):=by
 have e1:=u64_mul_nat t 2147483648;have e2:=div_nat t 8589934592;have e3:=bits_or_u64_nat (t*2147483648 % 18446744073709551616) (t/8589934592) (Nat.mod_lt _ (by decide)) (by omega);rw[<-e1,<-e2]at e3;exact e3
theorem fold_nat (h:Nat) (hh:h<18446744073709551616):bits .xor .u64 (h:Int) ((h:Int)/4294967296)=(foldN h:Int):=
 xorShift_u64 h 4294967296 hh
theorem mix_rotl (x:Nat) (hx:x<18446744073709551616) (w:World):
  Calls Tryz.prog 102 #[.int .u64 (x:Int),.int .i64 31] w fun e w'=>e=.returned (.int .u64 (rotT x:Int))/\w=w':=by
 have H:=Lib.hid (rot_nat x hx);have hb:bits BinOp.and IntKind.u64 31 63=31:=by decide
 go_enter Tryz.func102,Tryz.ntmps102;go_wp2
 go_ret;exact⟨ret_u64 H.out,rfl⟩
theorem mix_fold (h:Nat) (hh:h<18446744073709551616) (w:World):
  Calls Tryz.prog 103 #[.int .u64 (h:Int)] w fun e w'=>e=.returned (.int .u64 (foldN h:Int))/\w=w':=by
 have H:=Lib.hid (fold_nat h hh);go_enter Tryz.func103,Tryz.ntmps103;go_wp2
 go_ret;exact⟨ret_u64 H.out,rfl⟩
theorem xmul_nat (h x:Nat) (hh:h<18446744073709551616) (hx:x<18446744073709551616):
  IntKind.u64.wrap (bits .xor .u64 (h:Int) (x:Int)*11400714819323198485)=(stepT (h^^^x):Int):=by
 rw[bits_xor_u64_nat h x hh hx];exact u64_mul_nat _ 11400714819323198485
theorem mix_Step (h x:Nat) (hh:h<18446744073709551616) (hx:x<18446744073709551616) (w:World):
  Calls Tryz.prog 72 #[.int .u64 (h:Int),.int .u64 (x:Int)] w fun e w'=>e=.returned (.int .u64 (stepN h x:Int))/\w=w':=by
 have h1:=xmul_nat h x hh hx;have H2:=Lib.hid (u64_add_nat (rotT (stepT (h^^^x))) 15485907386658061715);have l:stepT (h^^^x)<18446744073709551616:=Nat.mod_lt _ (by decide);have L:=Lib.hid l;clear l hh hx;go_enter Tryz.func72,Tryz.ntmps72;go_wp2_with fail
 refine(mix_rotl _ L.out w).mono ?_;rintro e w1 ⟨rfl,rfl⟩;go_wp2_with fail
 go_ret;exact⟨ret_u64 H2.out,rfl⟩
theorem mix_End (h:Nat) (hh:h<18446744073709551616) (w:World):
  Calls Tryz.prog 74 #[.int .u64 (h:Int)] w fun e w'=>e=.returned (.int .u64 (endN h:Int))/\w=w':=by
 have h1:=u64_mul_nat (foldN h) 15485907386658061715;have l:foldN h*15485907386658061715 % 18446744073709551616<18446744073709551616:=Nat.mod_lt _ (by decide);obtain⟨m,hm⟩:∃m,m=foldN h*15485907386658061715 % 18446744073709551616:=⟨_,rfl⟩
 rw[<-hm]at h1 l;have h2:IntKind.u64.wrap ((foldN h:Int)*15485907386658061715)=(m:Int):=h1;have E:=Lib.hid (show endN h=foldN m by rw[hm];rfl);have L:=Lib.hid l;have HH:=Lib.hid hh;clear hm h1 l hh;go_enter Tryz.func74,Tryz.ntmps74;go_wp2_with fail
 refine(mix_fold _ HH.out w).mono ?_;rintro e w1 ⟨rfl,rfl⟩;go_wp2_with fail
 refine(mix_fold _ L.out w).mono ?_;rintro e w1 ⟨rfl,rfl⟩;go_wp2_with fail
 go_ret;exact⟨ret_u64 (by rw[E.out]),rfl⟩
theorem ref_Step (h x:Nat) (hh:h<18446744073709551616) (hx:x<18446744073709551616) (w:World):
  Calls Tryz.prog 75 #[.int .u64 (h:Int),.int .u64 (x:Int)] w fun e w'=>e=.returned (.int .u64 (stepN h x:Int))/\w=w':=by
 have h1:=xmul_nat h x hh hx;have h2:=rot_nat (stepT (h^^^x)) (Nat.mod_lt _ (by decide));have H3:=Lib.hid (u64_add_nat (rotT (stepT (h^^^x))) 15485907386658061715);clear hh hx;go_enter Tryz.func75,Tryz.ntmps75;go_wp2
 go_ret;exact⟨ret_u64 H3.out,rfl⟩
theorem ref_End (h:Nat) (hh:h<18446744073709551616) (w:World):
  Calls Tryz.prog 76 #[.int .u64 (h:Int)] w fun e w'=>e=.returned (.int .u64 (endN h:Int))/\w=w':=by
 have h1:=u64_mul_nat (foldN h) 15485907386658061715;have l:foldN h*15485907386658061715 % 18446744073709551616<18446744073709551616:=Nat.mod_lt _ (by decide);obtain⟨m,hm⟩:∃m,m=foldN h*15485907386658061715 % 18446744073709551616:=⟨_,rfl⟩
 rw[<-hm]at h1 l;have h0:=fold_nat h hh;have h2:IntKind.u64.wrap ((foldN h:Int)*15485907386658061715)=(m:Int):=h1;have E:=Lib.hid (show endN h=foldN m by rw[hm];rfl);have h3:=fold_nat m l;clear hm h1 l hh;go_enter Tryz.func76,Tryz.ntmps76;go_wp2
 go_ret;exact⟨ret_u64 (by rw[E.out]),rfl⟩
section
variable {P : Program} {md : Region.Mode} {ops : Array Oper} {Q : Exit → Act → World → Prop} {S : World → Prop} {U : List Nat}
def wpAnyT (P:Program) (md:Region.Mode) (ops:Array Oper) (Q:Exit->Act->World->Prop) (S:World->Prop) (U:List Nat):Nat->Array Bool->Act->World->Prop
 |0,listed,a,w=>Region.ready md ops listed=[]/\Q .normal a w
 |fuel+1,listed,a,w=>
  (Region.ready md ops listed=[]->Q .normal a w)/\
  ∀i∈Region.ready md ops listed,wpOp P ops Q i (fun a' w'=>(U.contains i=false->S w')/\wpAnyT P md ops Q S U fuel (listed.setIfInBounds i true) a' w') a w
theorem wpAnyT_any:∀(fuel:Nat) (listed:Array Bool) (a:Act) (w:World),wpAnyT P md ops Q S U fuel listed a w->wpAny P md ops Q fuel listed a w
 |0,_,_,_,h=>h
 |fuel+1,_,_,_,h=>⟨h.1,fun i hi=>wpOp_mono (fun a' w' h'=>wpAnyT_any fuel _ a' w' h'.2) (h.2 i hi)⟩
def waitsT (md:Region.Mode) (ops:Array Oper) (i:Nat):Nat->Nat->Bool
 |0,_=>false
 |n+1,j=>match ops[j]? with|some o=>o.after.any fun e=>Region.binds md e&&(e.on==i||waitsT md ops i n e.on)|none=>false
def waitsFor (md:Region.Mode) (ops:Array Oper) (U:List Nat) (i:Nat):Bool:=U.all fun j=>waitsT md ops i ops.size j
def Closed (md:Region.Mode) (ops:Array Oper) (listed:Array Bool):Prop:=
 ∀k ok,ops[k]? =some ok->listed.getD k false=true->∀e∈ok.after,Region.binds md e=true->listed.getD e.on false=true
def closedB (md:Region.Mode) (ops:Array Oper) (listed:Array Bool):Bool:=
 (List.range ops.size).all fun k=> !listed.getD k false||(match ops[k]? with|some o=>o.after.all fun e=> !Region.binds md e||listed.getD e.on false|none=>true)
theorem closed_of {listed:Array Bool} (h:closedB md ops listed=true):Closed md ops listed:=by
 intro k ok hk hl e he hb;unfold closedB at h;rw[List.all_eq_true]at h;have h1:=h k (by rw[List.mem_range];exact(Array.getElem?_eq_some_iff.1 hk).1);rw[hl,hk]at h1;simp only[Bool.not_true,Bool.false_or]at h1;rw[Array.all_eq_true_iff_forall_mem]at h1;have h2:=h1 e he;rw[hb]at h2;simpa using h2
theorem waits_not {i:Nat} {listed:Array Bool} (hc:Closed md ops listed) (hi:listed.getD i false=false):∀(n j:Nat),waitsT md ops i n j=true->listed.getD j false=true->False
 |0,_,h,_=>by cases h
 |n+1,j,h,hl=>by
  unfold waitsT at h;cases hj:ops[j]? with
  |none=>rw[hj]at h;cases h
  |some o=>
   rw[hj]at h;simp only at h;rw[Array.any_eq_true]at h;obtain⟨k,hk,h2⟩:=h;rw[Bool.and_eq_true,Bool.or_eq_true,beq_iff_eq]at h2;have hon:=hc j o hj hl _ (Array.getElem_mem hk) h2.1;rcases h2.2 with h3|h3
   ·rw[h3,hi]at hon;cases hon
   ·exact waits_not hc hi n _ h3 hon
theorem waits_ready {i j:Nat} {listed:Array Bool} (h:waitsFor md ops U i=true) (hc:Closed md ops listed) (hi:listed.getD i false=false) (hU:U.contains j=true) (hj:j∈Region.ready md ops listed):False:=by
 unfold waitsFor at h;rw[List.all_eq_true]at h;have h1:=h j (by simpa using hU);obtain⟨_,oj,hoj,hall⟩:=mem_ready.1 hj;cases hn:ops.size with
 |zero=>rw[hn]at h1;cases h1
 |succ n=>
  rw[hn]at h1;unfold waitsT at h1;rw[hoj]at h1;simp only at h1;rw[Array.any_eq_true]at h1;obtain⟨k,hk,h2⟩:=h1;rw[Bool.and_eq_true,Bool.or_eq_true,beq_iff_eq]at h2;have hon:=hall _ (Array.getElem_mem hk) h2.1;rcases h2.2 with h3|h3
  ·rw[h3,hi]at hon;cases hon
  ·exact waits_not hc hi n _ h3 hon
theorem closed_set {j:Nat} {listed:Array Bool} (hc:Closed md ops listed) (hj:j∈Region.ready md ops listed):Closed md ops (listed.setIfInBounds j true):=by
 obtain⟨_,oj,hoj,hall⟩:=mem_ready.1 hj;intro k ok hk hl e he hb;by_cases hjk:j=k
 ·subst hjk
  rw[hoj]at hk;obtain rfl:=Option.some.inj hk;exact getD_set_true (hall e he hb)
 ·rw[getD_set_ne false hjk]at hl
  exact getD_set_true (hc k ok hk hl e he hb)
theorem wpAnyT_first {i:Nat} {oi:Oper} {v:Value} (hi:ops[i]? =some oi) (hsel:∀(j:Nat) (o:Oper) cs b,ops[j]? =some o->o.op≠.select cs b)
  (hQ:∀c a w,Q (.panic c) (a.put oi.dst v) w->Q (.panic c) a w) (hw:waitsFor md ops U i=true):
  ∀(fuel:Nat) (listed:Array Bool) (a:Act) (w:World),
   (∀j oj,ops[j]? =some oj->j≠i->listed.getD j true=false->(∀e∈oj.after,Region.binds md e=true->e.on≠i)->oi.apart ops oj=true)->
   Closed md ops listed->i∈Region.ready md ops listed->YieldsIf P ops S oi v a->S w->
   wpAnyT P md ops Q S U fuel (listed.setIfInBounds i true) (a.put oi.dst v) w->wpAnyT P md ops Q S U (fuel+1) listed a w:=by
 intro fuel;induction fuel with
 |zero=>
  intro listed a w _ _ hr hy hS H;refine⟨fun h=>(by rw[h]at hr;cases hr),fun j hj=> ?_⟩;by_cases hji:j=i
  ·subst hji;exact hy.wpOp hi hS ⟨fun _=>hS,H⟩
  ·have:=ready_mono hj hji
   rw[H.1]at this;cases this
 |succ fuel ih=>
  intro listed a w hfree hcl hr hy hS H;refine⟨fun h=>(by rw[h]at hr;cases hr),fun j hj=> ?_⟩;by_cases hji:j=i
  ·subst hji;exact hy.wpOp hi hS ⟨fun _=>hS,H⟩
  ·have h1:=H.2 j (ready_mono hj hji)
   obtain⟨hjun,oj,hoj,hall⟩:=mem_ready.1 hj;have hifalse:listed.getD i false=false:=by
    have h0:=(mem_ready.1 hr).1;rcases Nat.lt_or_ge i listed.size with h'|h'
    ·simp[h']at h0 ⊢;exact h0
    ·simp[Array.getElem?_eq_none h']
   have hnot:∀e∈oj.after,Region.binds md e=true->e.on≠i:=fun e he hb heq=>by
    have h1:=hall e he hb;rw[heq,hifalse]at h1;cases h1
   have hnU:U.contains j=false:=by
    cases hc:U.contains j with
    |false=>rfl
    |true=>exact(waits_ready hw hcl hifalse hc hj).elim
   have h2:=wpOp_putIf hoj (hfree j oj hoj hji hjun hnot) (fun cs b=>hsel i oi cs b hi) (fun cs b=>hsel j oj cs b hoj) hQ hy h1;have hfree':∀k ok,ops[k]? =some ok->k≠i->(listed.setIfInBounds j true).getD k true=false->
     (∀e∈ok.after,Region.binds md e=true->e.on≠i)->oi.apart ops ok=true:=fun k ok hk hki hun hno=>by
    refine hfree k ok hk hki ?_ hno;by_cases hjk:j=k
    ·subst hjk;exact hjun
    ·rw[getD_set_ne true hjk]at hun;exact hun
   refine wpOp_mono (fun a' w' h3=>⟨fun hc=>h3.2.1 hc,ih (listed.setIfInBounds j true) a' w' hfree' (closed_set hcl hj) (ready_mono hr (Ne.symm hji)) h3.1 (h3.2.1 hnU) ?_⟩) h2;rw[Array.setIfInBounds_comm _ _ hji];exact h3.2.2
theorem wpAnyT_take {i:Nat} {oi:Oper} {v:Value} {fuel:Nat} {listed:Array Bool} {a:Act} {w:World} (hi:ops[i]? =some oi)
  (hs:Region.noSelect ops=true) (hf:Region.free md ops listed i=true) (hr:(Region.ready md ops listed).contains i=true) (hw:(waitsFor md ops U i&&closedB md ops listed)=true)
  (hQ:∀c a w,Q (.panic c) (a.put oi.dst v) w->Q (.panic c) a w) (hy:YieldsIf P ops S oi v a) (hS:S w)
  (h:wpAnyT P md ops Q S U fuel (listed.setIfInBounds i true) (a.put oi.dst v) w):wpAnyT P md ops Q S U (fuel+1) listed a w:=
 wpAnyT_first hi (Region.noSelect_spec hs) hQ (Bool.and_eq_true_iff.1 hw).1 fuel listed a w (Region.free_spec hi hf) (closed_of (Bool.and_eq_true_iff.1 hw).2) (by simpa using hr) hy hS h
theorem tkA (i d:Nat) {x1 x2 x3 x4 x5:_} {v:Value} {fuel:Nat} {listed:Array Bool} {a:Act} {w:World} (hi:ops[i]? =some ⟨some d,x1,x2,x3,x4,x5⟩:=by rfl) (hq:(Region.noSelect ops&&Region.free md ops listed i&&(Region.ready md ops listed).contains i&&(waitsFor md ops U i&&closedB md ops listed))=true:=by kernel_rfl) (hQ:∀c a w,Q (.panic c) (a.put (some d) v) w->Q (.panic c) a w:=by exact fun _ _ _ h=>h) (hg:Region.wanted ⟨some d,x1,x2,x3,x4,x5⟩ (yielded ops a.tmps)=true:=by rfl) (hv:∀w,S w->(execOp a.eval ⟨some d,x1,x2,x3,x4,x5⟩).run P w=.ok (.value v) w:=by(intro w hSw;(try dsimp only at hSw);first|(go_simp;done)|(go_simp;with_reducible rfl))) (hS:S w:=by assumption) (h:wpAnyT P md ops Q S U fuel (listed.setIfInBounds i true) (a.put (some d) v) w):wpAnyT P md ops Q S U (fuel+1) listed a w:=
 have h1:=Bool.and_eq_true_iff.1 hq;have h2:=Bool.and_eq_true_iff.1 h1.1;have h3:=Bool.and_eq_true_iff.1 h2.1
 wpAnyT_take hi h3.1 h3.2 h2.2 h1.2 hQ (Or.inl ⟨hg,hv⟩) hS h
theorem tyA (i d:Nat) {x1 x2 x3 x4 x5:_} {v:Value} {fuel:Nat} {listed:Array Bool} {a:Act} {w:World} (hi:ops[i]? =some ⟨some d,x1,x2,x3,x4,x5⟩:=by rfl) (hq:(Region.noSelect ops&&Region.free md ops listed i&&(Region.ready md ops listed).contains i&&(waitsFor md ops U i&&closedB md ops listed))=true:=by kernel_rfl) (hQ:∀c a w,Q (.panic c) (a.put (some d) v) w->Q (.panic c) a w:=by exact fun _ _ _ h=>h) (hy:YieldsIf P ops S ⟨some d,x1,x2,x3,x4,x5⟩ v a) (hS:S w:=by assumption) (h:wpAnyT P md ops Q S U fuel (listed.setIfInBounds i true) (a.put (some d) v) w):wpAnyT P md ops Q S U (fuel+1) listed a w:=
 have h1:=Bool.and_eq_true_iff.1 hq;have h2:=Bool.and_eq_true_iff.1 h1.1;have h3:=Bool.and_eq_true_iff.1 h2.1
 wpAnyT_take hi h3.1 h3.2 h2.2 h1.2 hQ hy hS h
theorem wpAnyT_done {listed:Array Bool} {a:Act} {w:World} (hr:Region.ready md ops listed=[]) (h:Q .normal a w):
  ∀fuel,wpAnyT P md ops Q S U fuel listed a w
 |0=>⟨hr,h⟩
 |_+1=>⟨fun _=>h,by rw[hr];simp⟩
theorem wp_region_T {id:Nat} {a:Act} {w:World} (U:List Nat) (hm:P.follows .mixedOrders=true) (hS:S w.drew)
  (h:S w.drew->wpAnyT P .any ops Q S U ops.size (Array.replicate ops.size false) a w.drew):(Code.region id ops true).wp P Q a w:=
 wp_region_any hm (wpAnyT_any _ _ _ _ (h hS))
theorem wpAnyT_one {fuel:Nat} {listed:Array Bool} {a:Act} {w:World} {i:Nat} {o:Oper} (hr:Region.ready md ops listed=[i]) (ho:ops[i]? =some o)
  (h:∀K':Act->World->Prop,Shut (∀a w,S w->(S w->wpAnyT P md ops Q S U fuel (listed.setIfInBounds i true) a w)->K' a w)->if Region.wanted o (yielded ops a.tmps)=true then Oper.wp P o a w K' Q else K' (a.put o.dst undef) w):
  wpAnyT P md ops Q S U (fuel+1) listed a w:=by
 refine⟨fun h0=>absurd (hr▸h0) (by simp),fun j hj=> ?_⟩;rw[hr]at hj;obtain rfl:j=i:=by simpa using hj
 exact wpOp_step ho (fun K' hK=>h K' (fun a w hS hW=>hK a w ⟨fun _=>hS,hW hS⟩))
theorem tkO (i:Nat) (d:Option Nat) {x1 x2 x3 x4 x5:_} {fuel:Nat} {listed:Array Bool} {a:Act} {w:World} (hr:Region.ready md ops listed=[i]:=by kernel_rfl) (ho:ops[i]? =some ⟨d,x1,x2,x3,x4,x5⟩:=by rfl) (h:∀K':Act->World->Prop,Shut (∀a w,S w->(S w->wpAnyT P md ops Q S U fuel (listed.setIfInBounds i true) a w)->K' a w)->if Region.wanted ⟨d,x1,x2,x3,x4,x5⟩ (yielded ops a.tmps)=true then Oper.wp P ⟨d,x1,x2,x3,x4,x5⟩ a w K' Q else K' (a.put d undef) w):wpAnyT P md ops Q S U (fuel+1) listed a w:=wpAnyT_one hr ho h
theorem wpAnyT_last {fuel:Nat} {listed:Array Bool} {a:Act} {w:World} {i:Nat} {o:Oper} (hr:Region.ready md ops listed=[i]) (hU:U.contains i=true) (ho:ops[i]? =some o)
  (h:∀K':Act->World->Prop,Shut (∀a w,wpAnyT P md ops Q S U fuel (listed.setIfInBounds i true) a w->K' a w)->if Region.wanted o (yielded ops a.tmps)=true then Oper.wp P o a w K' Q else K' (a.put o.dst undef) w):
  wpAnyT P md ops Q S U (fuel+1) listed a w:=by
 refine⟨fun h0=>absurd (hr▸h0) (by simp),fun j hj=> ?_⟩;rw[hr]at hj;obtain rfl:j=i:=by simpa using hj
 exact wpOp_step ho (fun K' hK=>h K' (fun a w hW=>hK a w ⟨(fun hc=>absurd (hU.symm.trans hc) (by decide)),hW⟩))
theorem tkU (i:Nat) (d:Option Nat) {x1 x2 x3 x4 x5:_} {fuel:Nat} {listed:Array Bool} {a:Act} {w:World} (hr:Region.ready md ops listed=[i]:=by kernel_rfl) (hU:U.contains i=true:=by decide) (ho:ops[i]? =some ⟨d,x1,x2,x3,x4,x5⟩:=by rfl) (h:∀K':Act->World->Prop,Shut (∀a w,wpAnyT P md ops Q S U fuel (listed.setIfInBounds i true) a w->K' a w)->if Region.wanted ⟨d,x1,x2,x3,x4,x5⟩ (yielded ops a.tmps)=true then Oper.wp P ⟨d,x1,x2,x3,x4,x5⟩ a w K' Q else K' (a.put d undef) w):wpAnyT P md ops Q S U (fuel+1) listed a w:=wpAnyT_last hr hU ho h
def AllT (P:Program) (md:Region.Mode) (ops:Array Oper) (Q:Exit->Act->World->Prop) (S:World->Prop) (U:List Nat) (fuel:Nat) (listed:Array Bool) (a:Act) (w:World) (rs:List Nat):Prop:=
 ∀i∈rs,wpOp P ops Q i (fun a' w'=>(U.contains i=false->S w')/\wpAnyT P md ops Q S U fuel (listed.setIfInBounds i true) a' w') a w
theorem AllT.nil {fuel:Nat} {listed:Array Bool} {a:Act} {w:World}:AllT P md ops Q S U fuel listed a w []:=fun _ h=>by cases h
theorem AllT.cons {fuel:Nat} {listed:Array Bool} {a:Act} {w:World} {i:Nat} {o:Oper} {rs:List Nat} (ho:ops[i]? =some o)
  (h:∀K':Act->World->Prop,Shut (∀a w,S w->(S w->wpAnyT P md ops Q S U fuel (listed.setIfInBounds i true) a w)->K' a w)->if Region.wanted o (yielded ops a.tmps)=true then Oper.wp P o a w K' Q else K' (a.put o.dst undef) w)
  (hs:AllT P md ops Q S U fuel listed a w rs):AllT P md ops Q S U fuel listed a w (i::rs):=fun j hj=>by
 rcases List.mem_cons.1 hj with rfl|hj
 ·exact wpOp_step ho (fun K' hK=>h K' (fun a w hS hW=>hK a w ⟨fun _=>hS,hW hS⟩))
 ·exact hs j hj
theorem wpAnyT_ready {rs:List Nat} {fuel:Nat} {listed:Array Bool} {a:Act} {w:World} (hr:Region.ready md ops listed=rs) (hne:rs≠[])
  (h:AllT P md ops Q S U fuel listed a w rs):wpAnyT P md ops Q S U (fuel+1) listed a w:=⟨fun h0=>absurd (hr▸h0) hne,hr▸h⟩
theorem yieldsIf_load_row {op:Oper} {a:Act} (hw:Region.wanted op (yielded ops a.tmps)=true) (ty:TypeId) (x:Operand) (ho:op.op=.load ty x)
  (X:Nat) (hx:a.eval x=.pointer (some ⟨X,0,none⟩)) (c:Array Value) (T:TypeId) (fr:Nat×Nat) (d:TypeDesc) (hS:∀w,S w->w.heap[X]? =some (.cells c T fr))
  (hu:P.underlying ty=some d) (hd:d.isRow=true) (hi:(P.info? ty).map (·.size)=some c.size):YieldsIf P ops S op (.agg c) a:=
 .inl ⟨hw,fun w hw'=>by
  unfold execOp;simp only[ho,hx,Instr.loadAt,Instr.sureAddr,Sem.run_bind,Sem.run_pure,Result.andThen_ok,run_loadVar_row w X T ty c fr d (hS w hw') hu (by cases d<;>simp_all[TypeDesc.isRow]) hi]⟩
end
end Go.Proofs.YtengibnpebfblaaGreatDoor
namespace Go.Proofs.YtengibnpebfblaaGreatDoor
open Go.RowKit
section
variable {P : Program} {md : Region.Mode} {ops : Array Oper} {Q : Exit → Act → World → Prop} {S : World → Prop} {U : List Nat}
def YieldsC (P:Program) (ops:Array Oper) (S:World->Prop) (o:Oper) (v:Value) (a:Act):Prop:=
 Region.wanted o (yielded ops a.tmps)=true/\∀w,S w->∃f args,(execOp a.eval o).run P w=.ok (.enter f args) w/\Calls P f args w fun e w'=>e=.returned v/\w'=w
theorem YieldsC.wpOp {i:Nat} {o:Oper} {v:Value} {a:Act} (hi:ops[i]? =some o) (hy:YieldsC P ops S o v a)
  {K:Act->World->Prop} {w:World} (hS:S w) (h:K (a.put o.dst v) w):wpOp P ops Q i K a w:=by
 obtain⟨hw,hv⟩:=hy;obtain⟨f,args,hrun,hc⟩:=hv w hS;unfold Go.wpOp;simp only[hi,hw,if_true,Oper.wp,hrun,Oper.upon];refine .inl (hc.mono ?_);rintro e w' ⟨rfl,rfl⟩;exact h
theorem YieldsC.of_same {o:Oper} {v:Value} {a a':Act} (hy:YieldsC P ops S o v a) (he:execOp a'.eval o=execOp a.eval o)
  (hw:Region.wanted o (yielded ops a'.tmps)=Region.wanted o (yielded ops a.tmps)):YieldsC P ops S o v a':=by
 unfold YieldsC at*
 rw[he,hw];exact hy
theorem wpOp_putC {j:Nat} {oi oj:Oper} {v:Value} (hj:ops[j]? =some oj) (hap:oi.apart ops oj=true)
  (hsi:∀cs b,oi.op≠.select cs b) (hsj:∀cs b,oj.op≠.select cs b)
  (hQ:∀c a w,Q (.panic c) (a.put oi.dst v) w->Q (.panic c) a w) {K:Act->World->Prop} {a:Act} {w:World}
  (hy:YieldsC P ops S oi v a) (h:wpOp P ops Q j K (a.put oi.dst v) w):
  wpOp P ops Q j (fun a' w'=>YieldsC P ops S oi v a'/\K (a'.put oi.dst v) w') a w:=by
 obtain⟨h1,h2,h3⟩:=Oper.apart_spec hap;have keep:∀(a:Act),YieldsC P ops S oi v a->∀u,YieldsC P ops S oi v (a.put oj.dst u):=fun a hy u=>
  hy.of_same (execOp_put oi hsi a oj.dst u h3) (wanted_put oi a oj.dst u h3)
 have keepD:∀d,YieldsC P ops S oi v {a with defers:=d::a.defers}:=fun d=>hy.of_same rfl rfl
 unfold wpOp at*
 simp only[hj]at*
 rw[wanted_put oj a oi.dst v h1]at h;split
 ·rename_i hw
  simp only[hw,if_true]at h;rcases h with h|⟨hasks,hlets⟩
  case inr=>exact .inr ⟨by unfold Oper.asks at*;rw[execOp_put oj hsj a oi.dst v h1]at hasks;exact hasks,hlets⟩
  refine .inl ?_;unfold Oper.wp at*
  rw[execOp_put oj hsj a oi.dst v h1]at h;generalize(execOp a.eval oj).run P w=r at*
  cases r with
  |ok n w'=>
   cases n<;>simp only[Oper.upon]at h ⊢
   case value u=>exact⟨keep a hy u,by rw[<-Act.put_comm a v u h2];exact h⟩
   case skip=>exact⟨keep a hy _,by rw[<-Act.put_comm a v undef h2];exact h⟩
   case defer d=>
    refine⟨keep _ (keepD d) _,?_⟩;rw[<-Act.put_comm _ v undef h2,<-Act.put_defers];exact h
   case enter f args=>
    refine Calls.mono h fun e w'' he=> ?_
    cases e with
    |returned u=>exact⟨keep a hy u,by rw[<-Act.put_comm a v u h2];exact he⟩
    |panicked c=>exact hQ _ _ _ he
    |outgrown=>exact he
   case row row args=>exact Rows.mono h fun u w'' he=>⟨keep a hy u,by rw[<-Act.put_comm a v u h2];exact he⟩
  |halt x w'=>
   cases x<;>simp only[Oper.upon]at h ⊢
   case panic u=>exact hQ _ _ _ h
 ·rename_i hw
  simp only[hw]at h;exact⟨keep a hy _,by rw[<-Act.put_comm a v undef h2];exact h⟩
theorem wpAnyT_firstC {i:Nat} {oi:Oper} {v:Value} (hi:ops[i]? =some oi) (hsel:∀(j:Nat) (o:Oper) cs b,ops[j]? =some o->o.op≠.select cs b)
  (hQ:∀c a w,Q (.panic c) (a.put oi.dst v) w->Q (.panic c) a w) (hw:waitsFor md ops U i=true):
  ∀(fuel:Nat) (listed:Array Bool) (a:Act) (w:World),
   (∀j oj,ops[j]? =some oj->j≠i->listed.getD j true=false->(∀e∈oj.after,Region.binds md e=true->e.on≠i)->oi.apart ops oj=true)->
   Closed md ops listed->i∈Region.ready md ops listed->YieldsC P ops S oi v a->S w->
   wpAnyT P md ops Q S U fuel (listed.setIfInBounds i true) (a.put oi.dst v) w->wpAnyT P md ops Q S U (fuel+1) listed a w:=by
 intro fuel;induction fuel with
 |zero=>
  intro listed a w _ _ hr hy hS H;refine⟨fun h=>(by rw[h]at hr;cases hr),fun j hj=> ?_⟩;by_cases hji:j=i
  ·subst hji;exact hy.wpOp hi hS ⟨fun _=>hS,H⟩
  ·have:=ready_mono hj hji
   rw[H.1]at this;cases this
 |succ fuel ih=>
  intro listed a w hfree hcl hr hy hS H;refine⟨fun h=>(by rw[h]at hr;cases hr),fun j hj=> ?_⟩;by_cases hji:j=i
  ·subst hji;exact hy.wpOp hi hS ⟨fun _=>hS,H⟩
  ·have h1:=H.2 j (ready_mono hj hji)
   obtain⟨hjun,oj,hoj,hall⟩:=mem_ready.1 hj;have hifalse:listed.getD i false=false:=by
    have h0:=(mem_ready.1 hr).1;rcases Nat.lt_or_ge i listed.size with h'|h'
    ·simp[h']at h0 ⊢;exact h0
    ·simp[Array.getElem?_eq_none h']
   have hnot:∀e∈oj.after,Region.binds md e=true->e.on≠i:=fun e he hb heq=>by
    have h1:=hall e he hb;rw[heq,hifalse]at h1;cases h1
   have hnU:U.contains j=false:=by
    cases hc:U.contains j with
    |false=>rfl
    |true=>exact(waits_ready hw hcl hifalse hc hj).elim
   have h2:=wpOp_putC hoj (hfree j oj hoj hji hjun hnot) (fun cs b=>hsel i oi cs b hi) (fun cs b=>hsel j oj cs b hoj) hQ hy h1;have hfree':∀k ok,ops[k]? =some ok->k≠i->(listed.setIfInBounds j true).getD k true=false->
     (∀e∈ok.after,Region.binds md e=true->e.on≠i)->oi.apart ops ok=true:=fun k ok hk hki hun hno=>by
    refine hfree k ok hk hki ?_ hno;by_cases hjk:j=k
    ·subst hjk;exact hjun
    ·rw[getD_set_ne true hjk]at hun;exact hun
   refine wpOp_mono (fun a' w' h3=>⟨fun hc=>h3.2.1 hc,ih (listed.setIfInBounds j true) a' w' hfree' (closed_set hcl hj) (ready_mono hr (Ne.symm hji)) h3.1 (h3.2.1 hnU) ?_⟩) h2;rw[Array.setIfInBounds_comm _ _ hji];exact h3.2.2
theorem wpAnyT_takeC {i:Nat} {oi:Oper} {v:Value} {fuel:Nat} {listed:Array Bool} {a:Act} {w:World} (hi:ops[i]? =some oi)
  (hs:Region.noSelect ops=true) (hf:Region.free md ops listed i=true) (hr:(Region.ready md ops listed).contains i=true) (hw:(waitsFor md ops U i&&closedB md ops listed)=true)
  (hQ:∀c a w,Q (.panic c) (a.put oi.dst v) w->Q (.panic c) a w) (hy:YieldsC P ops S oi v a) (hS:S w)
  (h:wpAnyT P md ops Q S U fuel (listed.setIfInBounds i true) (a.put oi.dst v) w):wpAnyT P md ops Q S U (fuel+1) listed a w:=
 wpAnyT_firstC hi (Region.noSelect_spec hs) hQ (Bool.and_eq_true_iff.1 hw).1 fuel listed a w (Region.free_spec hi hf) (closed_of (Bool.and_eq_true_iff.1 hw).2) (by simpa using hr) hy hS h
end
end Go.Proofs.YtengibnpebfblaaGreatDoor
namespace Go.Proofs.YtengibnpebfblaaGreatDoor
open Go.RowKit
theorem results_cell_row1 {P:Program} {fn:Func} {p u:Tmp} {ty:TypeId} (h:fn.results=#[.cell p ty,.tmp u]) (tmps:Array Value) (w:World) (g:Nat) (t:TypeId) (cs:Array Value) (fr:Nat×Nat) (d:TypeDesc)
  (hp:tmps.getD p undef=.pointer (some ⟨g,0,none⟩)) (hg:w.heap[g]? =some (.cells cs t fr))
  (hu:P.underlying ty=some d) (hd:(match d with| .struct _| .array _ _=>true|_=>false)=true) (hi:(P.info? ty).map (·.size)=some cs.size):
  (results fn tmps).run P w=.ok (.tuple #[.agg cs,tmps.getD u undef]) w:=by
 have hp':tmps[p]?.getD undef=.pointer (some ⟨g,0,none⟩):=by simpa using hp
 simp[results,h,hp',asAddr,run_loadVar_row w g t ty cs fr d hg hu hd hi]
end Go.Proofs.YtengibnpebfblaaGreatDoor
