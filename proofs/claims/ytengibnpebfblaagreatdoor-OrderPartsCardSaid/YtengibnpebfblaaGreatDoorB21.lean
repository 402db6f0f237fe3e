import Derived.Test.YtengibnpebfblaaGreatDoorB18
import Derived.Test.YtengibnpebfblaaGreatDoorB20
import Derived.Lib.OwnBridge
import Derived.Lib.RowBridge
import Derived.OwnWalk
import Derived.Sort.Grow
import Derived.Sort.OwnSorted
set_option maxRecDepth 1000000
set_option maxHeartbeats 8000000
set_option linter.unusedSimpArgs false
namespace Go.Proofs.YtengibnpebfblaaGreatDoor
open Go.RowKit
theorem buf_make {ops:Array Oper} {rest:List Oper} {o:Oper} {a:Act} {Q:Exit->Act->World->Prop} {w:World} (hgd:o.guard=none) (l c:Operand) (hop:o.op=.makeSlice 129 l c)
  {B:Nat} (kl kc:IntKind) (C:Int) (n:Nat) (hl:a.eval l=.int kl 0) (hc:a.eval c=.int kc C) (hC:C=(n:Int)) (hn:n<=10000000) (hB:B<=w.heap.size)
  (h:∀v w',Buf B v [] w'->Below w.heap.size w w'->wpList Tryz.prog ops Q rest (a.put o.dst v) w'):wpList Tryz.prog ops Q (o::rest) a w:=by
 obtain⟨i,hi,hz,h1,h2⟩:=info_parts u8_info;refine wpList_make_own w hgd l c 129 hop B 5 i (.int .u8 0) 1 Tryz.underlying129 hi hz h1 kl kc C n hl hc hC (by rw[h2];omega) (by unfold maxLen;omega) hB fun w' r1 r2=> ?_
 have hb:Below w.heap.size w w':=(Below.refl _ _).grown r2 (Nat.le_refl _) (fun k hk=>by cases hk);exact h _ _ ⟨World.ownsRowF_of r1,Nat.le_trans hB hb.size⟩ hb
open Go.Shelf
def Eps (B:Nat) (v:Value) (ps:List Nat) (w:World):Prop:=w.ownsRow B 161 1 v ps.length (en enE ps)/\B<=w.heap.size
structure Ap (n₀:Nat) (w w':World):Prop where
 below:Below n₀ w w'
 kept:∀(g:Nat) (o:Obj),w.heap[g]? =some o->(∀cs fr,o≠.cells cs 161 fr)->w'.heap[g]? =some o
section
variable {B : Nat} {v : Value} {ps : List Nat} {w w1 : World}
theorem Eps.nil (h:B<=w.heap.size):Eps B (.slice none 0 0) [] w:=⟨World.ownsRow_nil _ _ _ _,h⟩
theorem Eps.grown {row:Option Nat} (h:Eps B v ps w) (hg:w.grownBy w1 row) (hne:v.ownBlock=none\/v.ownBlock≠row):Eps B v ps w1:=⟨h.1.kept hg hne,Nat.le_trans h.2 hg.size⟩
theorem Eps.later (h:Eps B v ps w) (hb:Below w.heap.size w w1):Eps B v ps w1:=h.grown (row:=none) ⟨hb.os,hb.tape,hb.output,hb.size,fun k hk _=>hb.block k hk⟩ (by cases v.ownBlock<;>simp)
theorem Eps.low {B':Nat} (h:Eps B v ps w) (hB:B'<=B):Eps B' v ps w:=by
 obtain⟨⟨h1,h2⟩,h3⟩:=h;refine⟨⟨h1,?_⟩,by omega⟩;rcases h2 with h2|⟨g,cap,cur,a1,a2,a3⟩
 ·exact .inl h2
 ·exact .inr ⟨g,cap,cur,a1,by omega,a3⟩
theorem Eps.len (h:Eps B v ps w):∃a c,v=.slice a ps.length c:=by
 obtain⟨⟨_,h2⟩,_⟩:=h;rcases h2 with⟨rfl,h2⟩|⟨g,cap,cur,rfl,_⟩
 ·exact⟨none,0,by rw[h2]⟩
 ·exact⟨_,_,rfl⟩
theorem Eps.cut (h:Eps B v ps w):CutAt (fun _=>True) w 1 v (en enE ps) ps.length:=(ownsRow_cut h.1).weak fun _ _=>trivial
theorem eps_kept {A C:World} {row:Option Nat} (h:Eps B v ps A) (hg:A.grownBy C row) (hr:∀r,row=some r->∃o:Obj,A.heap[r]? =some o/\o.isCells=false):Eps B v ps C:=by
 refine h.grown hg ?_;cases hv:v.ownBlock with
 |none=>exact .inl rfl
 |some k=>
  refine .inr fun e=> ?_
  obtain⟨o,ho,hc⟩:=hr k e.symm;obtain⟨⟨_,h2⟩,_⟩:=h;rcases h2 with⟨rfl,_⟩|⟨g,cap,cur,rfl,_,hb,_⟩
  ·cases hv
  ·obtain rfl:g=k:=by simpa[Value.ownBlock]using hv
   rw[hb]at ho;cases ho
   cases hc
theorem eps_not {L:Nat} {cs:Array Value} {T:TypeId} {fr:Nat×Nat} (h:Eps B v ps w) (hb:w.heap[L]? =some (.cells cs T fr)) (hT:T≠161):v.ownBlock≠some L:=by
 intro e;obtain⟨⟨_,h2⟩,_⟩:=h;rcases h2 with⟨rfl,_⟩|⟨g,cap,cur,rfl,_,hg,_⟩
 ·cases e
 ·obtain rfl:g=L:=by simpa[Value.ownBlock]using e
  rw[hb]at hg;cases hg
  exact hT rfl
theorem Eps.only {L:Nat} {cs:Array Value} {T:TypeId} {fr:Nat×Nat} (h:Eps B v ps w) (k:Only L w w1) (hb:w.heap[L]? =some (.cells cs T fr)) (hT:T≠161):Eps B v ps w1:=h.grown k.by_ (.inr (eps_not h hb hT))
theorem Ap.refl (n₀:Nat) (w:World):Ap n₀ w w:=⟨Below.refl _ _,fun _ _ h _=>h⟩
theorem Ap.trans {n₀:Nat} {a b c:World} (h:Ap n₀ a b) (k:Ap n₀ b c):Ap n₀ a c:=⟨h.below.trans k.below,fun g o hg ho=>k.kept g o (h.kept g o hg ho) ho⟩
theorem Ap.later {n₀:Nat} {a b:World} (h:Below a.heap.size a b) (hn:n₀<=a.heap.size):Ap n₀ a b:=⟨h.mono hn,fun g _ hg _=>(h.block g (gZ hg)).trans hg⟩
theorem Ap.grown {n₀:Nat} (h:Eps n₀ v ps w) (hg:w.grownBy w1 v.ownBlock):Ap n₀ w w1:=by
 obtain⟨⟨_,h2⟩,hB⟩:=h;refine⟨⟨hg.os,hg.tape,hg.output,hg.size,fun k hk=>hg.block k (by omega) ?_⟩,fun g o ho hne=>(hg.block g (gZ ho) ?_).trans ho⟩
 ·rcases h2 with⟨rfl,_⟩|⟨g,cap,cur,rfl,hB,_⟩
  ·simp[Value.ownBlock]
  ·simp[Value.ownBlock]
   omega
 ·rcases h2 with⟨rfl,_⟩|⟨g',cap,cur,rfl,_,hgg,_⟩
  ·simp[Value.ownBlock]
  ·intro e
   obtain rfl:g=g':=by simpa[Value.ownBlock]using e
   rw[hgg]at ho;cases ho
   exact hne _ _ rfl
theorem Ap.keeps {n₀:Nat} {a b:World} (h:Ap n₀ a b):KeepsOthers a b:=⟨h.below.size,fun k o hk ho=>h.kept k o hk (fun cs fr e=>by subst e;cases ho)⟩
theorem Ap.row {n₀ X:Nat} {a b:World} {cs:Array Value} {T:TypeId} {fr:Nat×Nat} (h:Ap n₀ a b) (hX:a.heap[X]? =some (.cells cs T fr)) (hT:T≠161):b.heap[X]? =some (.cells cs T fr):=
 h.kept X _ hX (fun _ _ e=>by cases e;exact hT rfl)
theorem Ap.tab {n₀:Nat} {a b:World} (h:Ap n₀ a b) (hn:1<n₀) (hT:Tab6 a):Tab6 b:=fun j hj=>(h.below.cell (p:=⟨1,j,none⟩) hn).trans (hT j hj)
theorem Ap.kp {n₀:Nat} {a b:World} {S:Nat->Prop} (h:Ap n₀ a b) (hS:∀g,S g->g<n₀):Kp S a b:=Kp.low h.below hS
theorem Ap.wrote {n₀ X:Nat} {a b c:World} (h:Ap n₀ a b) (k:Only X b c) (hn:a.heap.size<=X) (hn':n₀<=a.heap.size):Ap n₀ a c:=
 ⟨h.below.trans (k.below (by omega)),fun g o hg ho=>k.other (h.kept g o hg ho) (fun e=>by have:=(gZ hg);omega)⟩
end
theorem new_belowP {w w1:World} {c:Array Value} {T:TypeId} (h:w.alloc (.cells c T)=w1):Below w.heap.size w w1/\w1.heap[w.heap.size]? =some (.cells c T (0,0))/\w1.heap.size=w.heap.size+1:=by
 subst h;exact⟨Below.newly' _ _,heap_alloc_last _ _,by simp⟩
theorem CutAt.low {S:Nat->Prop} {n₀:Nat} {W W':World} {s n:Nat} {v:Value} {cs:List Value} (h:CutAt S W s v cs n) (hb:Below n₀ W W') (hS:∀g,S g->g<n₀):CutAt S W' s v cs n:=by
 obtain⟨a,c,h1,h2,h3,h4⟩:=h;refine⟨a,c,h1,h2,h3,h4.imp_right ?_⟩;rintro⟨g,o,e,hg,hlt,h5⟩;exact⟨g,o,e,hg,Nat.lt_of_lt_of_le hlt hb.size,fun j u hu=>(hb.cell (p:=⟨g,o+j,none⟩) (hS g hg)).trans (h5 j u hu)⟩
theorem eps_wp {o:Oper} {a:Act} {K:Act->World->Prop} {Q:Exit->Act->World->Prop} {w:World} (s x:Operand)
  (ho:o.op=.call {callee:=.builtin .append,args:=#[s,x],argTypes:=#[94,94]})
  {B:Nat} {v vr:Value} {ps rs:List Nat} (hs:a.eval s=v) (hb:Eps B v ps w) (hx:a.eval x=vr) {S:Nat->Prop} (hc:CutAt S w 1 vr (en enE rs) rs.length) (hlen:ps.length+rs.length<=17592186044416)
  (h:∀v' w',Eps B v' (ps++rs) w'->Ap B w w'->K (a.put o.dst v') w'):o.wp Tryz.prog a w K Q:=by
 obtain⟨i,hi,hz,h1,h2⟩:=info_parts eptr_info;obtain⟨v',w',r1,r2,r3⟩:=run_append_cut (P:=Tryz.prog) (w:=w) B 94 o.type 161 i (.pointer none) 8 Tryz.underlying94 hi hz h1 h2 rfl (by decide) hb.1 hc (en_one enE_one _)
  (by unfold maxLen;omega) (by omega) hb.2
 unfold Oper.wp execOp;simp only[ho,resolve,invoke,builtin,Sem.run_bind,Sem.run_pure,Result.andThen_ok,List.map_toArray,List.map_cons,List.map_nil,hs,hx,r1];exact h v' w' ⟨by rw[List.length_append,en_app];exact r2,Nat.le_trans hb.2 r3.size⟩ (Ap.grown hb r3)
theorem eps_list {ops:Array Oper} {rest:List Oper} {o:Oper} {a:Act} {Q:Exit->Act->World->Prop} {w:World} (hgd:o.guard=none) (s x:Operand)
  (ho:o.op=.call {callee:=.builtin .append,args:=#[s,x],argTypes:=#[94,94]})
  {B:Nat} {v vr:Value} {ps rs:List Nat} (hs:a.eval s=v) (hb:Eps B v ps w) (hx:a.eval x=vr) {S:Nat->Prop} (hc:CutAt S w 1 vr (en enE rs) rs.length) (hlen:ps.length+rs.length<=17592186044416)
  (h:∀v' w',Eps B v' (ps++rs) w'->Ap B w w'->wpList Tryz.prog ops Q rest (a.put o.dst v') w'):wpList Tryz.prog ops Q (o::rest) a w:=
 wpList_plain hgd fun _ hK=>eps_wp s x ho hs hb hx hc hlen fun v' w' h1 h2=>hK _ _ (h v' w' h1 h2)
theorem eps_in {ops:Array Oper} {rest:List Oper} {o:Oper} {a:Act} {Q:Exit->Act->World->Prop} {w:World} {n l:Nat} (hgd:o.guard=none) (s x:Operand)
  (ho:o.op=.call {callee:=.builtin .append,args:=#[s,x],argTypes:=#[94,94]})
  {B:Nat} {v vr:Value} {ps rs:List Nat} (hs:a.eval s=v) (hb:Eps B v ps w) (hx:a.eval x=vr) {S:Nat->Prop} (hc:CutAt S w 1 vr (en enE rs) rs.length) (hlen:ps.length+rs.length<=17592186044416)
  (h:∀v' w',Eps B v' (ps++rs) w'->Ap B w w'->wpListIn (Fence.wide.inRound l) n Tryz.prog ops Q rest (a.put o.dst v') w'):wpListIn (Fence.wide.inRound l) n Tryz.prog ops Q (o::rest) a w:=
 list_in hgd (fun c' hc=>by rw[ho]at hc;cases hc) fun _ hK=>eps_wp s x ho hs hb hx hc hlen fun v' w' h1 h2=>hK _ _ (h v' w' h1 h2)
end Go.Proofs.YtengibnpebfblaaGreatDoor
namespace Go.Proofs.YtengibnpebfblaaGreatDoor
open Go.RowKit
theorem tr_shape {w:World} {y:Tr} {v:Value} (h:TrV w y v):∃k n t a l c a' l' c',v=.agg (trC k n t (.slice a l c) (.slice a' l' c')):=by
 obtain⟨k,n,t,ks,xs⟩:=y;obtain⟨kv,xv,rfl,_,_,_,⟨a,c,_,_,rfl,_⟩,a',c',_,_,rfl,_⟩:=h.open';exact⟨_,_,_,_,_,_,_,_,_,rfl⟩
theorem cat_split {ks:List Kid} {k:Nat} (hk:k<ks.length):catK ks=catK (ks.take k)++ks[k].l++catK (ks.drop (k+1)):=by
 rw[<-catK_one ks[k],<-catK_app,<-catK_app,<-List.take_succ_eq_append_getElem hk,List.take_append_drop]
def WayAt (i:Nat) (ks:List Kid) (k r:Nat):Prop:=∃hk:k<ks.length,i=(catK (ks.take k)).length+r/\r<=ks[k].l.length/\(i<(catK ks).length->r<ks[k].l.length)
theorem rp_way (w:World) {S:Nat->Prop} (h n i:Nat) (p:Kid) (ks:List Kid) (hh:HeadAt S w 86 4 p.a (en (kidc h) ks) n) (hkl:ks.length=n) (hn1:1<=n) (hn16:n<=16) (hi:i<=(catK ks).length) (hN:(catK ks).length<=200000):
  Calls Tryz.prog 111 #[.agg (kidc (h+1) p).toArray,.int .i64 (i:Int)] w fun e w'=>∃k r:Nat,e=.returned (.tuple #[.int .i64 (k:Int),.int .i64 (r:Int)])/\
   WayAt i ks k r/\Below w.heap.size w w':=by
 obtain⟨w1,hw1⟩:∃w1,w.alloc (.cells (kidc (h+1) p).toArray 86)=w1:=⟨_,rfl⟩
 obtain⟨hb1,hx1,hs1⟩:=nodes_new hw1;obtain⟨g,c,cur,fr,hpa,hcap,hS,hg,hcs⟩:=hh.pos hn1;have ca2:w1.cell? ⟨w.heap.size,2,none⟩=some (.slice (some ⟨g,0,none⟩) n c):=by rw[<-hpa];exact cell_in hx1 rfl
 have hg1:=(hb1.block g (gZ hg)).trans hg;have HC:Hid (∀k (hk:k<ks.length),w1.cell? ⟨g,k*4,none⟩=some (.int .i64 (ks[k].l.length:Int))):=fun k hk=>by
  have:=en_range (h:=h) hg1 hcs hk 0 _ rfl;rwa[Nat.add_zero]at this
 have HB1:=iH hb1;have HKL:=iH (And.intro hkl (And.intro hn1 hi));have HN:=iH hN;have hn16':(n:Int)<=16:=by omega
 have hi5:(i:Int)<=200000:=by omega
 clear hh hkl hn1 hn16 hi hN hb1 hx1 hs1 hpa hcap hS hg hcs hg1;go_enter Tryz.func111,Tryz.ntmps111;go_upto_region 1 with fail
 clear hw1;go_wp2_with fail
 go_loopw [1,6] (fun iv kv wr=>∃k r:Nat,kv=.int .i64 (k:Int)/\iv=.int .i64 (r:Int)/\k<n/\Hid (i=(catK (ks.take k)).length+r)/\w1=wr) (fun _ kv _=>n-(intOf kv).toNat)
 case atStart=>exact⟨0,i,rfl,rfl,by have:=HKL.out;omega,(by show _=_;simp[catK]),rfl⟩
 case round=>
  obtain⟨k,r,rfl,rfl,hk,HI,rfl⟩:=hrel;have hkl:=HKL.out;have hkk:k<ks.length:=by omega
  have hc:=HC.out k hkk;have hsum:=cat_take_succ hkk;have hsp:=congrArg List.length (cat_split hkk);rw[List.length_append,List.length_append]at hsp;obtain⟨z,hz⟩:∃z,z=ks[k].l.length:=⟨_,rfl⟩
  rw[<-hz]at hc hsum hsp;have hr5:(r:Int)<=200000:=by have:=HI.out;omega
  have HZ:=iH hz;have HSP:=iH hsp;have HSUM:=iH hsum;have hki:(k:Int)<(n:Int):=by omega
  clear hz hsp hsum hkl;by_cases h1:k+1<n
  ·have h1':(k:Int)<(n:Int)-1:=by omega
   by_cases h2:z<=r
   ·have h2':(r:Int)>=(z:Int):=by omega
    have h2d:(z:Int)<=(r:Int):=by omega
    obtain⟨d,hd⟩:∃d:Nat,(r:Int)-(z:Int)=d:=⟨r-z,by omega⟩
    have HD:Hid (r=z+d):=(by show _=_;omega)
    clear h2;go_wp2_with fail
    go_roundw
    case rel=>exact⟨k+1,d,by simp,by first|rfl|rw[hd],by omega,(by show _=_;have:=HI.out;have:=HSUM.out;have:=HD.out;omega),trivial⟩
    case measure=>simp[intOf];omega
   ·have h2':¬(r:Int)>=(z:Int):=by omega
    have h2d:¬(z:Int)<=(r:Int):=by omega
    have H2:=iH h2;clear h2;go_wp2_with fail
    go_ret2;exact⟨k,r,rfl,⟨hkk,HI.out,by have:=H2.out;have:=HZ.out;omega,fun _=>by have:=H2.out;have:=HZ.out;omega⟩,HB1.out⟩
  ·have h1':¬(k:Int)<(n:Int)-1:=by omega
   go_wp2_with fail
   go_ret2;have hkl:=HKL.out;have hd:catK (ks.drop (k+1))=[]:=by rw[List.drop_of_length_le (by omega)];rfl
   have hsp:=HSP.out;rw[hd,List.length_nil]at hsp;have hz:=HZ.out;have hI:=HI.out;exact⟨k,r,rfl,⟨hkk,hI,by omega,fun h=>by omega⟩,HB1.out⟩
theorem nodes_some (p:Addr) (n c:Nat) (w:World):(binOp .eql 84 (.slice (some p) n c) (.slice none 0 0)).run Tryz.prog w=.ok (.bool false) w:=by
 have hu:=run_underlying (w:=w) Tryz.underlying84;have hm:Op.maxDepth=(Op.maxDepth-1)+1:=by decide
 unfold binOp;simp only[];unfold Op.equal;rw[hm];unfold Op.equalIn;simp[Sem.run_bind,hu,Result.andThen]
theorem nodes_none (w:World):(binOp .eql 84 (.slice none 0 0) (.slice none 0 0)).run Tryz.prog w=.ok (.bool true) w:=by
 have hu:=run_underlying (w:=w) Tryz.underlying84;have hm:Op.maxDepth=(Op.maxDepth-1)+1:=by decide
 unfold binOp;simp only[];unfold Op.equal;rw[hm];unfold Op.equalIn;simp[Sem.run_bind,hu,Result.andThen]
theorem nodes_some' (p:Addr) (n c:Nat) (w:World):(binOp .neq 84 (.slice (some p) n c) (.slice none 0 0)).run Tryz.prog w=.ok (.bool true) w:=by
 have hu:=run_underlying (w:=w) Tryz.underlying84;have hm:Op.maxDepth=(Op.maxDepth-1)+1:=by decide
 unfold binOp;simp only[];unfold Op.equal;rw[hm];unfold Op.equalIn;simp[Sem.run_bind,hu,Result.andThen]
theorem nodes_none' (w:World):(binOp .neq 84 (.slice none 0 0) (.slice none 0 0)).run Tryz.prog w=.ok (.bool false) w:=by
 have hu:=run_underlying (w:=w) Tryz.underlying84;have hm:Op.maxDepth=(Op.maxDepth-1)+1:=by decide
 unfold binOp;simp only[];unfold Op.equal;rw[hm];unfold Op.equalIn;simp[Sem.run_bind,hu,Result.andThen]
end Go.Proofs.YtengibnpebfblaaGreatDoor
