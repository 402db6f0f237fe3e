import Derived.Test.YtengibnpebfblaaGreatDoorB19
import Derived.Test.YtengibnpebfblaaGreatDoorB21
import Derived.Test.YtengibnpebfblaaGreatDoorB22
set_option maxRecDepth 1000000
set_option maxHeartbeats 8000000
set_option linter.unusedSimpArgs false
namespace Go.Proofs.YtengibnpebfblaaGreatDoor
open Go.RowKit
theorem st_mid {ops:Array Oper} {rest:List Oper} {o:Oper} {a:Act} {w:World} {Q:Exit->Act->World->Prop} (hgd:o.guard=none) (ty:TypeId) (x y:Operand) (ho:o.op=.store ty x y)
  (X k:Nat) (c':Array Value) (hx:a.eval x=.pointer (some ⟨X,k,none⟩)) (hy:a.eval y=.agg c') (T:TypeId) (c:Array Value) (hB:w.heap[X]? =some (.cells c T (0,0)))
  (hi:(Tryz.prog.info? ty).map (·.size)=some c'.size) (hk:k+c'.size<=c.size) (h1:c'.all (·.oneCell')=true) (d:Array Value) (hd:(c.toList.take k++c'.toList++c.toList.drop (k+c'.size)).toArray=d)
  (h:∀w',w'.heap[X]? =some (.cells d T (0,0))->Only X w w'->wpList Tryz.prog ops Q rest (a.put o.dst undef) w'):wpList Tryz.prog ops Q (o::rest) a w:=
 wpList_plain hgd fun _ hK=>by
  have:=run_storeCells_at (P:=Tryz.prog) X k T c'.toList 0 c w hB (by simpa using hk) (fun v hv=>(Array.all_eq_true_iff_forall_mem.1 h1) v (by simpa using hv));simp only[Nat.add_zero,Array.length_toList,hd]at this;have hrun:(storeVar ty ⟨X,k,none⟩ (.agg c')).run Tryz.prog w=.ok () (w.setRow X d):=by
   cases hq:Tryz.prog.info? ty with
   |none=>simp[hq]at hi
   |some i=>
    have hs:c'.size=i.size:=by simp[hq]at hi;omega
    simp[storeVar,sizeOf,typeInfo,hq,Value.cells,hs,this]
  unfold Oper.wp execOp;simp only[ho,hx,hy,Instr.storeAt,Instr.sureAddr,Sem.run_bind,Sem.run_pure,Result.andThen_ok,hrun];exact hK _ _ (h _ (setRow_heap w X _ _ _ _ hB) (only_setRow _ _ _))
theorem map_mid (x0 x1 x2 y0 y1 y2 z0 z1 z2:Value):((#[x0,x1,x2,y0,y1,y2]:Array Value).toList.take 3++(#[z0,z1,z2]:Array Value).toList++(#[x0,x1,x2,y0,y1,y2]:Array Value).toList.drop (3+(#[z0,z1,z2]:Array Value).size)).toArray=#[x0,x1,x2,z0,z1,z2]:=rfl
theorem api_size:(Tryz.prog.info? 24).map (·.size)=some 2:=by kernel_rfl
theorem hm_New (w:World) (s:Nat) (n:Int) (S:Nat->Prop):
  Calls Tryz.prog 95 #[.agg #[.int .u64 (s:Int),.int .i64 n]] w fun r w'=>∃c,r=.returned (.agg c)/\MapAt S w' s n [] c/\Below w.heap.size w w':=by
 obtain⟨w1,hw1⟩:∃w1,(w.alloc (.cells #[.int .u64 (s:Int),.int .i64 n] 24)).alloc (.cells #[.int .u64 0,.int .i64 0,.int .i64 0,.int .u32 0,.slice none 0 0,.slice none 0 0] 98)=w1:=⟨_,rfl⟩
 obtain⟨hb1,hx1,hy1,hs1⟩:=two_newG hw1;have HX1:=iH hx1;have HY1:=iH hy1;have HB1:=iH hb1;clear hx1 hy1 hb1 hs1;go_enter Tryz.func95,Tryz.ntmps95;go_upto_region 1 with fail
 clear hw1;go_wp2_with (first
  |(refine ld_if (by rfl) 24 _ rfl w.heap.size rfl 24 _ _ _ HX1.out Tryz.underlying24 rfl api_size ?_)
  |(refine st_agg rfl 98 _ _ rfl (w.heap.size+1) #[.int .u64 (s:Int),.int .i64 n,.int .i64 0,.int .u32 0,.slice none 0 0,.slice none 0 0] rfl rfl 98 _ HY1.out map_size rfl (by simp[Value.oneCell']) ?_;intro w6 h6 k6))
 exact bodyPost_ret (results_cell_row rfl _ _ (w.heap.size+1) 98 _ (0,0) _ rfl h6 Tryz.underlying98 rfl map_size) rfl ⟨_,rfl,MapAt.zero S _ s n,HB1.out.trans (k6.below (by omega))⟩
open Go.Shelf
attribute [local go_sem] Oper.semAt_some
theorem lt_size:(Tryz.prog.info? 94).map (·.size)=some 1:=by kernel_rfl
theorem st_box_in {ops:Array Oper} {rest:List Oper} {o:Oper} {a:Act} {w:World} {Q:Exit->Act->World->Prop} {n l:Nat} (hgd:o.guard=none) (ty:TypeId) (x y:Operand) (ho:o.op=.store ty x y)
  (X:Nat) (v:Value) (hx:a.eval x=.pointer (some ⟨X,0,none⟩)) (hy:a.eval y=v) (h1:v.oneCell'=true) (T:TypeId) (u:Value) (hB:Boxed w X T u)
  (hi:(Tryz.prog.info? ty).map (·.size)=some 1)
  (h:∀w',Boxed w' X T v->Only X w w'->wpListIn (Fence.wide.inRound l) n Tryz.prog ops Q rest (a.put o.dst undef) w'):wpListIn (Fence.wide.inRound l) n Tryz.prog ops Q (o::rest) a w:=
 list_in hgd (fun c' hc=>by rw[ho]at hc;cases hc) fun _ hK=>st_box_wp ty x y ho X v hx hy h1 T u hB hi fun w' h1 h2=>hK _ _ (h w' h1 h2)
theorem ownFrom_ap {β:Type} {n₀ B:Nat} {w₀:World} (hn:w₀.heap.size<=B) (hn':n₀<=w₀.heap.size):OwnFrom B (fun(_:β) W=>Ap n₀ w₀ W):=fun s W W' row hs hg hr=>
 ⟨hs.below.grown hg (Nat.le_trans hn' hs.below.size) (fun k e=>by have:=(hr k e).1;omega),fun g o hgo ho=>
  (hg.block g (by have:=(gZ hgo);have:=hs.below.size;omega) (fun e=>by have:=(hr g e.symm).1;have:=(gZ hgo);omega)).trans (hs.kept g o hgo ho)⟩
theorem ent_kept {hs:ByteArray->Nat} {S:Nat->Prop} {A C:World} {b:Nat} {e:Ent} {row:Option Nat} (h:EntAt hs S A b e) (hg:A.grownBy C row) (hr:∀r,row=some r->∃o:Obj,A.heap[r]? =some o/\o.isCells=false):EntAt hs S C b e:=by
 obtain⟨h1,fr,h2⟩:=h;exact⟨h1,fr,row_kept h2 hg hr⟩
def AppRes (hs:ByteArray->Nat) (S:Nat->Prop) (n₀:Nat) (w:World) (ps:List Nat) (L:List Ent) (r:Ending) (w':World):Prop:=
 ∃(v':Value) (qs:List (Nat×Ent)),r=.returned v'/\(qs.map (·.2)).Perm L/\(∀q∈qs,EntAt hs S w' q.1 q.2)/\Eps n₀ v' (ps++qs.map (·.1)) w'/\Ap n₀ w w'
def AppI (hs:ByteArray->Nat) (S:Nat->Prop) (n₀:Nat) (w:World) (ps:List Nat) (c:Array Value) (L:List Ent) (V:World):Prop:=
 ((∃(a5:Option Addr) (m5 c5:Nat) (qs5:List (Nat×Ent)),Boxed V (w.heap.size+1) 94 (.slice a5 m5 c5)/\Eps n₀ (.slice a5 m5 c5) (ps++qs5.map (·.1)) V/\(qs5.map (·.2)).Perm L/\∀q∈qs5,EntAt hs S V q.1 q.2)/\V.heap[w.heap.size]? =some (.cells c 96 (0,0)))/\Ap n₀ w V
def AppOk (hs:ByteArray->Nat) (f:Nat):Prop:=∀(S:Nat->Prop) (n₀:Nat) (w:World) (L:List Ent) (c:Array Value) (v:Value) (ps:List Nat),(∀g,S g->g<n₀)->1<n₀->NodeAt hs S f w L c->L.length<=50000->Eps n₀ v ps w->ps.length+2000000*f+2000000<=100000000->Tab6 w->
  Calls Tryz.prog 123 #[.agg c,v] w (AppRes hs S n₀ w ps L)
theorem hm_app_core (hs:ByteArray->Nat) (f:Nat) (S:Nat->Prop) (n₀:Nat) (w:World) (v:Value) (ps:List Nat) (b:Nat) (va:Option Addr) (vn vc:Nat) (la:Option Addr) (ln lc:Nat) (R:Rg Pl) (M:Nat->List Ent) (qs:List (Nat×Ent)) (hS:∀g,S g->g<n₀) (ht:1<n₀)
  (hrow:AtR S w R #[.int .u32 (b:Int),.slice va vn vc]) (hl:CutAt S w 1 (.slice la ln lc) (en enE (qs.map (·.1))) (qs.map (·.1)).length) (hq:∀q∈qs,EntAt hs S w q.1 q.2) (hqn:qs.length<=50000) (hpl:∀i,i<32->PlAt hs S w (NodeAt hs S f w) (M i) (R i)) (hMn:∀i,(M i).length<=50000)
  (hrec:allG R=[]\/(AppOk hs f/\ps.length+2000000*(f+1)+2000000<=100000000)) (heps:Eps n₀ v ps w) (hps:ps.length<=100000000) (hT:Tab6 w):
  Calls Tryz.prog 123 #[.agg #[.int .u32 (b:Int),.slice va vn vc,.slice la ln lc],v] w (AppRes hs S n₀ w ps ((allG R).flatMap (fun x=>M x.1)++qs.map (·.2))):=by
 obtain⟨va0,vc0,rfl⟩:=heps.len;have hn₀:=heps.2;have hb':bitsG R 32=b:=by
  obtain⟨v',e,_⟩:=hrow;simp only[Array.mk.injEq,List.cons.injEq,Value.int.injEq,true_and]at e;omega
 have HPL:Hid (PlsIn n₀ w (.slice va vn vc) (lisG R)):=by
  obtain⟨v',e,h2⟩:=hrow;simp only[Array.mk.injEq,List.cons.injEq]at e;rw[<-e.2.1]at h2;exact pls_in h2 hS
 have HTT:=iH hT;have HPLA:=iH hpl;have HLC:=iH hl;have HQ:=iH hq;have HQN:=iH hqn;have HMN:=iH hMn;have HREC:=iH hrec;have HEPS:=iH heps;have HPS:=iH hps;have HS:=iH hS;have HALL:=iH (fun b v w=>callsIn_wide.1 (pr_All_in 5 b v w));obtain⟨w1,hw1⟩:∃w1,(w.alloc (.cells #[.int .u32 (b:Int),.slice va vn vc,.slice la ln lc] 96)).alloc (.cells #[.slice va0 ps.length vc0] 94)=w1:=⟨_,rfl⟩
 obtain⟨hb1,hx1,hy1,hs1⟩:=two_newG hw1;have HX1:=iH hx1;have HY1:=iH hy1;have HB1:=iH hb1;have HS1:=iH hs1;clear hrow hl hq hqn hpl hMn hrec heps hps hT hS hx1 hy1 hb1 hs1;refine(callsIn_wide (n:=5)).1 ?_;refine callsIn_of_wp_marks Tryz.func123 rfl trivial ?_ rfl;refine wpIn_wide.2 ?_;simp only[Tryz.ntmps123,List.size_toArray,List.length_cons,List.length_nil,Nat.reduceAdd,Nat.reduceSub,Array.replicate_succ,Array.replicate_zero,List.push_toArray,List.append_toArray,List.nil_append,List.cons_append];go_upto_region 1 with fail
 go_wp2_with (first
  |(refine wpList_load_mid rfl 93 _ rfl w.heap.size 0 rfl [.int .u32 (b:Int),.slice va vn vc] _ (row_range HX1.out) Tryz.underlying93 rfl row_size ?_)
  |(go_at_call 138;refine(HALL.out _ _ _).mono ?_;rintro e w' ⟨rfl,rfl⟩))
 obtain⟨RB,hRB⟩:∃RB,RB=w1.heap.size:=⟨_,rfl⟩
 have hRB2:RB=w.heap.size+2:=by rw[hRB,HS1.out]
 obtain⟨W0,hW0⟩:∃W0,w1.alloc (.cells #[.int .u32 (b:Int),.slice va vn vc] 93)=W0:=⟨_,rfl⟩
 obtain⟨hb0,hr0,hs0⟩:=new_belowP hW0;rw[hW0];rw[<-hRB]at hr0 hs0;have hA0:Ap n₀ w W0:=(Ap.later HB1.out hn₀).trans (Ap.later hb0 (by omega));have hX0:=(hb0.block _ (by omega)).trans HX1.out;have hL0:Boxed W0 (w.heap.size+1) 94 (.slice va0 ps.length vc0):=(hb0.block _ (by omega)).trans HY1.out;have hE0:Eps n₀ (.slice va0 ps.length vc0) (ps++([]:List (Nat×Ent)).map (·.1)) W0:=by rw[List.map_nil,List.append_nil];exact HEPS.out.later (tW HB1.out hb0)
 clear hW0 hb0 hw1;refine(wpIn_wide (n:=5)).1 ?_;refine wpIn_rangeFunc_ownH (F:=Fence.wide) rfl (by omega) (gf:=152) (lb:=#[.pointer (some ⟨w1.heap.size,0,none⟩)]) rfl trivial (enters_of Tryz.func152 (by kernel_rfl) rfl)
  (pr_all_stopsS 4 (by omega) w1.heap.size n₀ R _ W0 (by omega) (by omega) ht (by rw[hb',<-hRB];exact cell_in hr0 rfl) (by rw[<-hRB];exact cell_in hr0 rfl) (HPL.out.below hA0.below) (hA0.tab ht HTT.out)) belowK_t (belowK_b (by omega)) (Below.refl _ _) (fun _=>rfl)
  (fun pre V=>AppI hs S n₀ w ps #[.int .u32 (b:Int),.slice va vn vc,.slice la ln lc] (pre.flatMap fun x=>M x.1.1) V)
  (fun _ _ _=>False)
  (fun s A B row hs' hg hr=>by
   obtain⟨⟨⟨a5,m5,c5,qs5,h1,h2,h3,h4⟩,h5⟩,h6⟩:=hs';have hr':=fun r e=>(hr r e).2
   exact⟨⟨⟨a5,m5,c5,qs5,bx_kept h1 hg hr',eps_kept h2 hg hr',h3,fun q hq=>ent_kept (h4 q hq) hg hr'⟩,row_kept h5 hg hr'⟩,ownFrom_ap (β:=Unit) (by omega) hn₀ () A B row h6 hg hr⟩)
  (fun _ _ _ _ _ hs' _ _=>hs')
  ⟨⟨⟨va0,ps.length,vc0,[],hL0,hE0,by simp,by simp⟩,hX0⟩,hA0⟩
  (fun x a' V=>∃Bx,w.heap.size+2<=Bx/\V.heap[Bx]? =some (.cells (plc x.1.2) 186 (0,0))/\a'={tmps:=#[.agg #[.int .u32 (b:Int),.slice va vn vc,.slice la ln lc],.slice va0 ps.length vc0,.pointer (some ⟨w.heap.size,0,none⟩),.pointer (some ⟨w.heap.size+1,0,none⟩),.slice none 0 0,undef,.pointer (some ⟨Bx,0,none⟩),.pointer (some ⟨w.heap.size,0,none⟩),.agg #[.int .u32 (b:Int),.slice va vn vc],.func (.func 152) #[] #[.pointer (some ⟨w1.heap.size,0,none⟩)],.int .i64 (x.1.1:Int),.agg (plc x.1.2),undef,undef,undef,undef,undef,undef,undef,undef,undef,undef,undef,undef,undef,undef,undef,undef,undef,undef],defers:=[]})
  (fun x a'=>Own.from (fun s A B row hs' hg hr=>by obtain⟨Bx,h1,h2,h3⟩:=hs';exact⟨Bx,h1,row_kept h2 hg hr,h3⟩) _)
  ?assign ?body ?done ?stop
 case assign=>
  rintro l pre x V K ⟨⟨⟨a5,m5,c5,qs5,h1,h2,h3,h4⟩,h5⟩,hA⟩ hK;gi_wp2_with (refine st_in rfl 186 _ _ rfl V.heap.size (plc x.1.2) rfl rfl 186 (plc (none,none)) (heap_alloc_last _ _) pl_size rfl (plc_one x.1.2) ?_;intro w5 h5' k5;have hb5:Below V.heap.size V w5:=(Below.newly' _ _).trans (k5.below (Nat.le_refl _)))
  exact hK _ _ (((KeepsOthers.alloc V _).trans (only_keeps k5 (heap_alloc_last _ _))).from _) (hb5.mono h2.2) ⟨⟨⟨a5,m5,c5,qs5,(hb5.block _ h1.lt).trans h1,h2.later hb5,h3,fun q hq=>(h4 q hq).later hb5⟩,kW hb5 h5⟩,hA.trans (Ap.later hb5 h2.2)⟩ ⟨V.heap.size,by have:=h1.lt;omega,h5',rfl⟩
 case body=>
  rintro l pre x a' V hl ⟨r,hr⟩ ⟨⟨⟨a5,m5,c5,qs5,hL,hE,hP,hQ⟩,hX⟩,hA⟩ ⟨Bx,hBx,bX,rfl⟩ hlt;obtain⟨⟨i,p⟩,hx⟩:=x;obtain⟨hi,hri⟩:=all_memG hx;simp only at hi hri bX;have hapf:AppOk hs f/\ps.length+2000000*(f+1)+2000000<=100000000:=by
   rcases HREC.out with h|h
   ·rw[h]at hx;cases hx
   ·exact h
  have hpl:=HPLA.out i hi;rw[hri]at hpl;have hkp:Kp S w V:=hA.kp HS.out;have hlen5:qs5.length<=1600000:=by
   have h1:=hP.length_eq;rw[List.length_map]at h1;have h2:∀l:List {x:Nat×Pl//x∈allG R},(l.flatMap fun x=>M x.1.1).length<=l.length*50000:=by
    intro l;induction l with
    |nil=>simp
    |cons a t ih=>
     rw[List.flatMap_cons,List.length_append,List.length_cons,Nat.add_mul];have:=HMN.out a.1.1;omega
   have h3:=h2 pre;have h4:(allG R).length<=32:=by rw[all_lenG];exact cnt_leG R 32
   have h5:pre.length*50000<=32*50000:=Nat.mul_le_mul_right _ (by omega);omega
  have hlen6:(ps++qs5.map (·.1)).length+2000000*f+2000000<=100000000:=by
   have:=hapf.2;rw[List.length_append,List.length_map];omega
  have hMi:=HMN.out i;obtain⟨Mi,hMie⟩:∃Mi,Mi=M i:=⟨_,rfl⟩
  have HPM:Hid (∀qs6:List (Nat×Ent),(qs6.map (·.2)).Perm Mi->((qs5++qs6).map (·.2)).Perm ((pre++[(⟨(i,p),hx⟩:{x:Nat×Pl//x∈allG R})]).flatMap fun x:{x:Nat×Pl//x∈allG R}=>M x.1.1)):=fun qs6 h=>by
   rw[List.map_append,List.flatMap_append];refine hP.append ?_;rw[hMie]at h;simpa using h
  rw[<-hMie]at hpl hMi;have HA:=iH hA;have HL5:=iH hL;have HXN:=iH hX;have HBX:=iH bX;have HQ5:=iH hQ;have HE5:=iH hE;have cL:=hL.cell;have hLlt:=hL.lt;clear hMie
  match Mi,hpl,hMi,HPM with
  |[],hpl,_,_=>cases hpl
  |[e],hpl,hMi,HPM=>
   obtain⟨b1,hp,he⟩:=hpl;obtain rfl:=Option.some.inj hp;have HE1:=iH (hE.later (Below.newly' V (.cells #[.pointer (some ⟨b1,0,none⟩)] 161)));have HEN:=iH (he.kp hkp);have cx0:V.cell? ⟨Bx,0,none⟩=some (.pointer (some ⟨b1,0,none⟩)):=cell_in bX rfl;have cx1:V.cell? ⟨Bx,1,none⟩=some (.pointer none):=cell_in bX rfl;have hcx0:(V.alloc (.cells #[.pointer (some ⟨b1,0,none⟩)] 161)).cell? ⟨Bx,0,none⟩=some (.pointer (some ⟨b1,0,none⟩)):=((Below.newly' V _).cell (p:=⟨Bx,0,none⟩) (gZ bX)).trans cx0;have HB5:=iH hlen6;clear hL hE hP hQ hX hA bX hpl hri hr hapf hkp hlen5 hlen6 hMi hp he hX0 hL0 hr0 hA0 hE0 hs0;gi_wp2_with (first
    |(refine eps_in rfl _ _ rfl (v:=.slice a5 m5 c5) rfl HE1.out (rs:=[b1]) rfl (en_lit (heap_alloc_last V _)) (by have:=HB5.out;have:[b1].length=1:=rfl;omega) ?_;intro v6 w6 he6 ha6;obtain⟨a6,c6,rfl⟩:=he6.len;have HE6:=iH he6;have HA6:=iH ((Ap.later (Below.newly' V (.cells #[.pointer (some ⟨b1,0,none⟩)] 161)) HE5.out.2).trans ha6);have HL6:Hid (Boxed w6 (w.heap.size+1) 94 (.slice a5 m5 c5)):=HA6.out.row HL5.out (by decide);obtain⟨m6,hm6⟩:∃m6,m6=(ps++qs5.map (·.1)++[b1]).length:=⟨_,rfl⟩;rw[<-hm6]at HE6 ⊢;clear he6 ha6 hm6)
    |(refine st_box_in rfl 94 _ _ rfl (w.heap.size+1) (.slice a6 m6 c6) rfl rfl rfl 94 _ HL6.out lt_size ?_;intro w7 h7 k7))
   have hbv:Below n₀ V w7:=HA6.out.below.trans (k7.below (by omega));refine⟨(HA6.out.keeps.trans (only_keeps k7 HL6.out)).from _,hbv,⟨⟨⟨a6,m6,c6,qs5++[(b1,e)],h7,?_,HPM.out [(b1,e)] (by simp),fun q hq=> ?_⟩,k7.other (HA6.out.row HXN.out (by decide)) (by omega)⟩,(HA.out.trans HA6.out).wrote k7 (by omega) hn₀⟩⟩
   ·have:=HE6.out.only k7 HL6.out (by decide)
    rw[List.map_append,<-List.append_assoc];exact this
   ·rcases List.mem_append.1 hq with hq|hq
    ·exact(HQ5.out q hq).kp (Kp.low hbv HS.out)
    ·rw[List.mem_singleton]at hq
     subst hq;exact HEN.out.kp (Kp.low hbv HS.out)
  |m1::m2::M2,hpl,hMi,HPM=>
   obtain⟨g,cg,fr,hp,hSg,hgw,hnd⟩:=hpl;obtain rfl:=Option.some.inj hp;have hgV:V.heap[g]? =some (.cells cg 96 fr):=hkp g _ hSg ⟨_,_,_,rfl,.inr (.inl rfl)⟩ hgw;have HG5:=iH hgV;have HSZ:=iH hnd.size;have HD1:=iH (drawn_below V);have HAD:=iH (Ap.later (drawn_below V) HE5.out.2);have HC:=iH (hapf.1 S n₀ V.drew (m1::m2::M2) cg (.slice a5 m5 c5) (ps++qs5.map (·.1)) HS.out ht (hnd.kp (hkp.trans (Kp.later (drawn_below V)))) hMi (hE.later (drawn_below V)) hlen6 ((hA.trans HAD.out).tab ht HTT.out));have cx1:V.cell? ⟨Bx,1,none⟩=some (.pointer (some ⟨g,0,none⟩)):=cell_in bX rfl;have HK1:Hid (V.drew.cell? ⟨Bx,1,none⟩=some (.pointer (some ⟨g,0,none⟩))/\V.drew.heap[g]? =some (.cells cg 96 fr)/\V.drew.cell? ⟨w.heap.size+1,0,none⟩=some (.slice a5 m5 c5)):=⟨cx1,hgV,cL⟩
   clear hL hE hP hQ hX hA bX hpl hri hr hapf hkp hlen5 hlen6 hMi hp hnd hgw hX0 hL0 hr0 hA0 hE0 hs0 hgV;gi_wp2
   refine region_T_in (S:=(fun V'=>V'.cell? ⟨Bx,1,none⟩=some (.pointer (some ⟨g,0,none⟩))/\V'.heap[g]? =some (.cells cg 96 fr)/\V'.cell? ⟨w.heap.size+1,0,none⟩=some (.slice a5 m5 c5))) [6] (by kernel_rfl) (by kernel_rfl) (fun⟨_,_,h⟩=>h) (by first|exact HK1.out|exact⟨cell_in HX6.out rfl,HG6.out,HL6.out.cell⟩) (fun hHeld=> ?_);refine tkA 0 15 (h:=?_);refine tkA 1 16 (h:=?_);(try simp only[pq]);refine tkA 2 17 (h:=?_);refine tyA 3 18 (hy:=yieldsIf_load_row (by rfl) 96 _ rfl g rfl cg 96 _ _ (fun w hw=>hw.2.1) Tryz.underlying96 rfl (by rw[HSZ.out];exact nd_size)) (h:=?_);(try simp only[pq]);refine tkA 4 19 (h:=?_);(try simp only[pq]);refine tkO 5 (some 20) (h:=fun K hK=> ?_);go_simp;go_at_call 123;refine HC.out.mono ?_;rintro r w6 ⟨v6,qs6,rfl,hp6,hq6,he6,ha6⟩;obtain⟨a6,c6,rfl⟩:=he6.len;have HP6:=iH hp6;have HQ6:=iH hq6;have HE6:=iH he6;have HA6:=iH ha6;have HL6:Hid (Boxed w6 (w.heap.size+1) 94 (.slice a5 m5 c5)):=ha6.row (a:=V.drew) HL5.out (by decide);have HX6:Hid (w6.heap[Bx]? =some (.cells (plc (none,some g)) 186 (0,0))):=ha6.row (a:=V.drew) HBX.out (by decide);have HG6:Hid (w6.heap[g]? =some (.cells cg 96 fr)):=ha6.row (a:=V.drew) HG5.out (by decide);obtain⟨m6,hm6⟩:∃m6,m6=(ps++qs5.map (·.1)++qs6.map (·.1)).length:=⟨_,rfl⟩
   rw[<-hm6]at HE6 ⊢;clear hp6 hq6 he6 ha6 hm6;dsimp only;refine hK.out _ _ (by first|exact HK1.out|exact⟨cell_in HX6.out rfl,HG6.out,HL6.out.cell⟩) (fun hHeld=> ?_);clear hK K;(try simp only[pq]);refine tkU 6 none (h:=fun K hK=> ?_);rw[if_pos (by rfl)];refine st_box_wp 94 _ _ rfl (w.heap.size+1) (.slice a6 m6 c6) rfl rfl rfl 94 _ HL6.out lt_size ?_;intro w7 h7 k7;refine hK.out _ _ ?_;clear hK K;(try simp only[pq]);refine wpAnyT_done (by kernel_rfl) ?_ _;have hav:Ap n₀ V w6:=HAD.out.trans HA6.out;have hbv:Below n₀ V w7:=hav.below.trans (k7.below (by omega));refine⟨(hav.keeps.trans (only_keeps k7 HL6.out)).from _,hbv,⟨⟨⟨a6,m6,c6,qs5++qs6,h7,?_,HPM.out qs6 HP6.out,fun q hq=> ?_⟩,k7.other (hav.row HXN.out (by decide)) (by omega)⟩,(HA.out.trans hav).wrote k7 (by omega) hn₀⟩⟩
   ·have:=HE6.out.only k7 HL6.out (by decide)
    rw[List.map_append,<-List.append_assoc];exact this
   ·rcases List.mem_append.1 hq with hq|hq
    ·exact(HQ5.out q hq).kp (Kp.low hbv HS.out)
    ·exact(HQ6.out q hq).kp (Kp.low (k7.below (by omega)) HS.out)
 case done=>
  rintro D ys V hD hys ⟨⟨⟨a5,m5,c5,qs5,hL,hE,hP,hQ⟩,hX⟩,hA⟩ hK;have cL:=hL.cell;have cn2:V.cell? ⟨w.heap.size,2,none⟩=some (.slice la ln lc):=cell_in hX rfl;have HE:=iH hE;have HA:=iH hA;have HK:=iH hK;have HQ5:=iH hQ;have HP5:=iH hP;have HCV:=iH (HLC.out.low hA.below HS.out);have HLN:Hid ((ps++qs5.map (·.1)).length+(qs.map (·.1)).length<=17592186044416):=by
   show _<=_;have h1:=hP.length_eq;rw[List.length_map]at h1;have h2:∀l:List {x:Nat×Pl//x∈allG R},(l.flatMap fun x=>M x.1.1).length<=l.length*50000:=by
    intro l;induction l with
    |nil=>simp
    |cons a t ih=>
     rw[List.flatMap_cons,List.length_append,List.length_cons,Nat.add_mul];have:=HMN.out a.1.1;omega
   have h3:=h2 ys;have h4:(allG R).length<=32:=by rw[all_lenG];exact cnt_leG R 32
   have h6:ys.length<=32:=by rw[<-hys,List.length_map]at h4;exact h4
   have h5:ys.length*50000<=32*50000:=Nat.mul_le_mul_right _ h6;have:=HPS.out;have:=HQN.out;rw[List.length_append,List.length_map,List.length_map];omega
  have HYS:Hid ((allG R).flatMap (fun x=>M x.1)=ys.flatMap fun x=>M x.1.1):=by
   have h:=congrArg (List.flatMap (fun x:Nat×Pl=>M x.1)) hys;rw[List.flatMap_map]at h;exact h.symm
  clear hL hE hP hQ hX hA hK hX0 hL0 hr0 hA0 hE0 hys;go_wp2_with (first
   |(refine eps_list rfl _ _ rfl (v:=.slice a5 m5 c5) rfl HE.out (rs:=qs.map (·.1)) rfl HCV.out HLN.out ?_;intro v6 w6 he6 ha6;obtain⟨a6,c6,rfl⟩:=he6.len;obtain⟨m6,hm6⟩:∃m6,m6=(ps++qs5.map (·.1)++qs.map (·.1)).length:=⟨_,rfl⟩;rw[<-hm6]at he6 ⊢;clear hm6))
  have hK6:w6.heap[D]? =some (.deferred (some [])):=ha6.kept D _ HK.out (fun _ _ e=>by cases e);have hgp:=grownBy_putObj' w6 D (.deferred none);have hA6:=HA.out.trans ha6;have hkr:∀r,some D=some r->∃o:Obj,w6.heap[r]? =some o/\o.isCells=false:=fun r e=>by cases e;exact⟨_,hK6,rfl⟩
  refine⟨by simp[Act.put],.inl ⟨_,_,rfl,run_takeDeferred hK6,.slice a6 m6 c6,by simp[results,Tryz.f123,go_sem],_,qs5++qs,rfl,?_,fun q hq=> ?_,?_,?_⟩⟩
  ·rw[List.map_append,HYS.out]
   exact HP5.out.append_right _
  ·rcases List.mem_append.1 hq with hq|hq
   ·exact ent_kept ((HQ5.out q hq).kp (Kp.low ha6.below HS.out)) hgp hkr
   ·exact ent_kept ((HQ.out q hq).kp (hA6.kp HS.out)) hgp hkr
  ·rw[List.map_append,<-List.append_assoc]
   exact eps_kept he6 hgp hkr
  ·exact ownFrom_ap (β:=Unit) (B:=w.heap.size) (Nat.le_refl _) hn₀ () _ _ (some D) hA6 hgp (fun r e=>by cases e;exact⟨by omega,_,hK6,rfl⟩)
 case stop=>
  rintro D k pre V _ _ h _;exact h.elim
theorem flat_some {α β:Type} (R:Nat->Option α) (M:Nat->List β):∀l:List Nat,(∀i∈l,R i=none->M i=[])->((l.filterMap fun i=>(R i).map fun x=>(i,x)).flatMap fun x=>M x.1)=l.flatMap M
 |[],_=>rfl
 |i::l,h=>by
  have ih:=flat_some R M l (fun j hj=>h j (List.mem_cons_of_mem _ hj));cases hr:R i with
  |none=>
   rw[List.filterMap_cons_none (by rw[hr];rfl),ih,List.flatMap_cons,h i (List.mem_cons_self ..) hr,List.nil_append]
  |some x=>
   rw[List.filterMap_cons_some (b:=(i,x)) (by rw[hr];rfl),List.flatMap_cons,ih,List.flatMap_cons]
theorem hm_app (hs:ByteArray->Nat):∀f,f<=13->AppOk hs f
 |0,_=>fun S n₀ w L c v ps hS ht h hn he hp hT=>by
  obtain⟨vl,qs,rfl,h2,rfl,h4⟩:=h;rw[List.length_map]at h2 hn;obtain⟨la,lc,rfl,_⟩:=h2.head.shape;have h:=hm_app_core hs 0 S n₀ w v ps 0 none 0 0 la qs.length lc noG (fun _=>[]) qs hS ht (AtR.zero S w) (by rw[List.length_map];exact h2.head.cut) h4 hn (fun i _=>rfl) (fun _=>by simp) (.inl rfl) he (by omega) hT;exact h
 |f+1,hf=>fun S n₀ w L c v ps hS ht h hn he hp hT=>by
  obtain⟨b0,vr,R,rfl,hrow,hpl⟩:=h.row;obtain⟨bb,va,vn,vc,e⟩:=hrow.parts;simp only[Array.mk.injEq,List.cons.injEq]at e;obtain⟨rfl,rfl,_⟩:=e;have h:=hm_app_core hs f S n₀ w v ps bb va vn vc none 0 0 R (fun i=>chE hs (12-f) i L) [] hS ht hrow ⟨none,0,rfl,Nat.le_refl _,rfl,.inl ⟨rfl,rfl⟩⟩ (fun q hq=>by cases hq) (by simp) hpl (fun i=>Nat.le_trans ch_len_le hn) (.inr ⟨hm_app hs f (by omega),by omega⟩) he (by omega) hT;refine h.mono ?_;rintro r w' ⟨v',q2,h1,h2,h3⟩;refine⟨v',q2,h1,h2.trans ?_,h3⟩;rw[List.map_nil,List.append_nil];unfold allG;rw[flat_some R (fun i=>chE hs (12-f) i L) _ (fun i hi hr=>by
   have hp:=hpl i (List.mem_range.1 hi);rw[hr]at hp;cases hc:chE hs (12-f) i L with
   |nil=>rfl
   |cons a t=>
    rw[hc]at hp;cases t with
    |nil=>obtain⟨_,h,_⟩:=hp;cases h
    |cons b t=>obtain⟨_,_,_,h,_⟩:=hp;cases h)]
  exact ch_perm hs (12-f) L
end Go.Proofs.YtengibnpebfblaaGreatDoor
namespace Go.Proofs.YtengibnpebfblaaGreatDoor
open Go.RowKit
theorem cut_one (s:ByteArray) (k:Nat) (h:k<s.size):s.extract k (k+1)=⟨#[s[k]]⟩:=by
 apply ByteArray.ext;apply Array.toList_inj.1;have h1:(s.extract k (k+1)).data.toList=(s.data.toList.drop k).take 1:=by
  simp[ByteArray.data_extract]
 rw[h1,List.drop_eq_getElem_cons (by simpa using h)];rfl
theorem cov_take (s:ByteArray) (k:Nat) (h:k<s.size):covS (s.data.toList.take (k+1))=covS (s.data.toList.take k)++covOne s[k]:=by
 rw[take_bytes s k h];simp[covS]
theorem ref_Covered (s:ByteArray) (w:World) (hs:s.size<=1000000):
  Calls Tryz.prog 99 #[.string s] w fun e w'=>e=.returned (.string ⟨(covS s.data.toList).toArray⟩)/\w'=w:=by
 go_enter Tryz.func99,Tryz.ntmps99;go_wp2
 go_loopw [3,7] (fun x n wl=>∃(k:Nat) (txt:List UInt8),k<=s.size/\n=.int .i64 k/\x=.string ⟨txt.toArray⟩/\txt=covS (s.data.toList.take k)/\wl=w) (fun _ n _=>s.size-(intOf n).toNat)
 case atStart=>exact⟨0,[],Nat.zero_le _,rfl,rfl,by simp[covS],rfl⟩
 case round=>
  obtain⟨k,txt,hk,rfl,rfl,ht,rfl⟩:=hrel;have htl:txt.length<=2000000:=by
   have h:=cov_len (s.data.toList.take k);rw[ht];have h2:(s.data.toList.take k).length<=1000000:=by rw[List.length_take];omega
   omega
  have HT:=iH ht;clear ht;by_cases h1:k<s.size
  ·have hcut:=cut_one s k h1
   have HCT:=iH (cov_take s k h1);by_cases h0:s[k]=0
   ·have h0':(s[k].toNat:Int)=0:=by rw[h0];rfl
    go_wp2_with fail
    go_roundw
    case rel=>exact⟨k+1,txt++[0]++[255],by omega,by go_num,by rw[<-cat_mk,<-cat_mk],by rw[HCT.out,HT.out,h0];simp[covOne],trivial⟩
    case measure=>simp[intOf];omega
   ·have h0':¬(s[k].toNat:Int)=0:=fun e=>h0 (UInt8.toNat_inj.1 (by simpa using e))
    go_wp2_with fail
    go_roundw
    case rel=>exact⟨k+1,txt++[s[k]],by omega,by go_num,by rw[<-cat_mk],by rw[HCT.out,HT.out];simp[covOne,h0],trivial⟩
    case measure=>simp[intOf];omega
  ·have e:Hid (s.data.toList.take k=s.data.toList):=List.take_of_length_le (by rw[len_bytes];omega)
   rw[e.out]at HT;have HT2:=iH HT.out;clear HT e;go_wp2_with fail
   go_ret;exact⟨by rw[<-HT2.out];rfl,rfl⟩
theorem ref_Key5 (k n:Int) (t:ByteArray) (w:World) (hn:InR n) (ht:t.size<=1000000):
  Calls Tryz.prog 67 #[scV k n t] w fun e w'=>e=.returned (.string ⟨(keySc (k,n,t.data.toList)).toArray⟩)/\Below w.heap.size w w':=by
 have hb0:Below w.heap.size w (w.alloc (.cells #[.int .i64 k,.int .i64 n,.string t] 32)):=Below.newly' w _;have HN:=iH hb0;have HC:=iH (fun W=>ref_Check5 k n t W);have hcov:=cov_len t.data.toList;rw[len_bytes]at hcov;have HCL:=iH hcov;have HV:=iH (fun W=>ref_Covered t W ht);have HB:=iH (fun W=>ref_Bytes n W hn);clear hn hb0 hcov;by_cases hc:chkSc (k,n,t.data.toList)=0
 ·have key:∀(W:World),Below (w.alloc (.cells #[.int .i64 k,.int .i64 n,.string t] 32)).heap.size (w.alloc (.cells #[.int .i64 k,.int .i64 n,.string t] 32)) W->
    W.cell? ⟨w.heap.size,0,none⟩=some (.int .i64 k)/\W.cell? ⟨w.heap.size,1,none⟩=some (.int .i64 n)/\W.cell? ⟨w.heap.size,2,none⟩=some (.string t)/\Below w.heap.size w W:=fun W h=>
   ⟨(h.cell (p:=⟨w.heap.size,0,none⟩) (by simp)).trans (by simp),(h.cell (p:=⟨w.heap.size,1,none⟩) (by simp)).trans (by simp),(h.cell (p:=⟨w.heap.size,2,none⟩) (by simp)).trans (by simp),tW HN.out h⟩
  have KEY:=iH key;clear key;rcases chk_cases _ hc with h|h|h|⟨m,h⟩|⟨u,h⟩
  ·simp only[Prod.mk.injEq]at h
   obtain⟨rfl,rfl,h3⟩:=h;have H3:=iH h3;rw[h3]at HC hc;clear h3 hc;go_enter Tryz.func67,Tryz.ntmps67;go_wp2_with fail
   refine(HC.out _).mono ?_;rintro e w1 ⟨rfl,hb⟩;obtain⟨c0,c1,c2,hb1⟩:=KEY.out _ hb;have H1:=iH hb1;clear hb hb1;rw[chk_null];go_wp2_with fail
   go_ret;exact⟨by rw[H3.out,key_null];rfl,H1.out⟩
  ·simp only[Prod.mk.injEq]at h
   obtain⟨rfl,rfl,h3⟩:=h;have H3:=iH h3;rw[h3]at HC hc;clear h3 hc;have hcv:=cv1_run;have hca:∀(w:World) (a:Addr),cv1 w a (some (.int .u8 0))=.ok (.string ⟨#[0]⟩) w:=fun w a=>cv1_at w a 0 (by decide) (by decide)
   go_enter Tryz.func67,Tryz.ntmps67;go_wp2_with fail
   refine(HC.out _).mono ?_;rintro e w1 ⟨rfl,hb⟩;obtain⟨c0,c1,c2,hb1⟩:=KEY.out _ hb;have H1:=iH hb1;clear hb hb1;rw[chk_false];go_wp2_with fail
   go_ret;exact⟨by rw[H3.out,key_false];rfl,Below.more H1.out _⟩
  ·simp only[Prod.mk.injEq]at h
   obtain⟨rfl,rfl,h3⟩:=h;have H3:=iH h3;rw[h3]at HC hc;clear h3 hc;have hcv:=cv1_run;have hca:∀(w:World) (a:Addr),cv1 w a (some (.int .u8 1))=.ok (.string ⟨#[1]⟩) w:=fun w a=>cv1_at w a 1 (by decide) (by decide)
   go_enter Tryz.func67,Tryz.ntmps67;go_wp2_with fail
   refine(HC.out _).mono ?_;rintro e w1 ⟨rfl,hb⟩;obtain⟨c0,c1,c2,hb1⟩:=KEY.out _ hb;have H1:=iH hb1;clear hb hb1;rw[chk_true];go_wp2_with fail
   go_ret;exact⟨by rw[H3.out,key_true];rfl,Below.more H1.out _⟩
  ·simp only[Prod.mk.injEq]at h
   obtain⟨rfl,rfl,h3⟩:=h;have H3:=iH h3;rw[h3]at HC hc;clear h3 hc;go_enter Tryz.func67,Tryz.ntmps67;go_wp2_with fail
   refine(HC.out _).mono ?_;rintro e w1 ⟨rfl,hb⟩;obtain⟨c0,c1,c2,hb1⟩:=KEY.out _ hb;have H1:=iH hb1;clear hb hb1;rw[chk_int];go_wp2_with fail
   refine(HB.out _).mono ?_;rintro e w2 ⟨rfl,hb⟩;have H2:=iH (tW H1.out hb);have hl:(bytesS n).length=8:=bytesS_len n;clear hb;go_wp2_with fail
   go_ret;exact⟨by rw[H3.out,key_int,show(3::bytesS n)=[3]++bytesS n from rfl,<-cat_mk];rfl,H2.out⟩
  ·simp only[Prod.mk.injEq]at h
   obtain⟨rfl,rfl,h3⟩:=h;have HK:Hid (chkSc (3,0,t.data.toList)=0):=hc;clear h3 hc;go_enter Tryz.func67,Tryz.ntmps67;go_wp2_with fail
   refine(HC.out _).mono ?_;rintro e w1 ⟨rfl,hb⟩;obtain⟨c0,c1,c2,hb1⟩:=KEY.out _ hb;have H1:=iH hb1;clear hb hb1;rw[HK.out];go_wp2_with fail
   refine(HV.out _).mono ?_;rintro e w2 ⟨rfl,rfl⟩;have hl:(covS t.data.toList).length<=2000000:=by have:=HCL.out;omega
   go_wp2_with fail
   go_ret;exact⟨by rw[key_text,show(4::(covS t.data.toList++[0,0]))=[4]++covS t.data.toList++[0,0]from rfl,<-cat_mk,<-cat_mk];rfl,H1.out⟩
 ·have h0:(chkSc (k,n,t.data.toList) !=0)=true:=bne_iff_ne.2 hc
  have HK:=iH (key_bad _ hc);go_enter Tryz.func67,Tryz.ntmps67;go_wp2_with fail
  refine(HC.out _).mono ?_;rintro e w1 ⟨rfl,hb⟩;have H1:=iH (tW HN.out hb);clear hb;go_wp2_with fail
  go_ret;exact⟨by rw[HK.out];rfl,H1.out⟩
def hgt (w:World) (N:Nat):Nat:=match w.cell? ⟨N,1,none⟩with|some (.int _ x)=>x.toNat|_=>0
theorem hgt_of {w:World} {N h:Nat} {p:Kid} {T:TypeId} {fr:Nat×Nat} (hN:w.heap[N]? =some (.cells (kidc h p).toArray T fr)):hgt w N=h+1:=by
 unfold hgt;rw[cell_in (j:=1) (v:=.int .i64 ((h+1:Nat):Int)) hN rfl];simp
theorem getD_mid {A B C:List Cel} {r:Nat} (hr:r<B.length):(A++B++C).getD (A.length+r) zeroV=B.getD r zeroV:=by
 rw[List.getD_eq_getElem?_getD,List.getD_eq_getElem?_getD,List.getElem?_append_left (by rw[List.length_append];omega),List.getElem?_append_right (by omega),Nat.add_sub_cancel_left]
theorem rp_Get_in {S:Nat->Prop} {c:Array Value} {l:List Cel} (W:World) (h:RootR S W c l) (i:Nat) (hi:i<l.length) (hN:l.length<=200000):
    Calls Tryz.prog 91 #[.agg c,.int .i64 (i:Int)] W fun e W'=>e=.returned (.tuple #[.agg (celC (l.getD i zeroV)),.bool true])/\Below W.heap.size W W':=by
  obtain⟨w1,hw1⟩:∃w1,(W.alloc (.cells c 88)).alloc (.cells #[.int .i64 0,.int .i64 0,.string ⟨#[]⟩,.pointer none] 35)=w1:=⟨_,rfl⟩
  obtain⟨hb1,hx1,hy1,hs1⟩:=two_new hw1;have HY1:=iH hy1;have HX1:=iH hx1;have HB1:=iH hb1;have HS1:=iH hs1;have HS:=iH h.size;have HONE:=iH h.one;have HH:=iH (rp_has w1 (h.later hb1) (i:Int));rw[show decide (0<=(i:Int)/\(i:Int)<l.length)=true by simp;omega]at HH;have HR:Hid (∃hh p,c=(kidc hh p).toArray/\NodeR (fun g=>g<W.heap.size) W hh p/\i<p.l.length/\p.l.getD i zeroV=l.getD i zeroV/\p.l.length<=200000):=by
    rcases h.old with⟨rfl,rfl⟩|⟨hh,p,e1,rfl,h3,h4⟩
    ·simp at hi
    ·exact⟨hh,p,e1,h3.weak fun g hg=>hg.2,hi,rfl,hN⟩
  obtain⟨v,hv⟩:∃v,v=l.getD i zeroV:=⟨_,rfl⟩
  rw[<-hv]at HR ⊢;clear hb1 hx1 hy1 hs1 h hi hN hv;go_enter Tryz.func91,Tryz.ntmps91;go_upto_region 1 with fail
  clear hw1;go_wp2_with (first
    |(refine ld_if rfl 88 _ rfl W.heap.size rfl 88 _ _ _ HX1.out Tryz.underlying88 rfl (by rw[HS.out];exact rope_size) ?_)
    |(go_at_call 81
      refine HH.out.mono ?_;rintro e w3 ⟨rfl,hb3⟩;have HX3:=iH ((hb3.block W.heap.size (by have:=HS1.out;omega)).trans HX1.out);have HY3:=iH ((hb3.block (W.heap.size+1) (by have:=HS1.out;omega)).trans HY1.out);have HS3:Hid (W.heap.size+2<=w3.heap.size):=(by have h1:=HS1.out;have h2:=hb3.size;show _<=_;omega)
      have HB3:=iH (tW HB1.out hb3);clear hb3)
    |(refine ld_if rfl 86 _ rfl W.heap.size rfl 88 _ _ _ HX3.out Tryz.underlying86 rfl (by rw[HS.out];exact rnode_size) ?_)
    |(refine st_agg rfl 86 _ _ rfl w3.heap.size c rfl rfl 86 _ (heap_alloc_last _ _) (by rw[HS.out];exact rnode_size) (by rw[HS.out];rfl) HONE.out ?_;intro w4 h4 k4;have HN4:=iH h4;have HK4:Hid (Below w3.heap.size w3 w4):=(Below.newly' _ _).trans (k4.below (Nat.le_refl _));clear h4 k4))
  obtain⟨N,hNN⟩:∃N,N=w3.heap.size:=⟨_,rfl⟩
  have HNW:Hid (W.heap.size+2<=N):=by show _<=_;rw[hNN];exact HS3.out
  have HB4:=iH (tW HB3.out HK4.out);have HY4:=iH ((HK4.out.block (W.heap.size+1) (by have:=HS3.out;omega)).trans HY3.out);rw[<-hNN]at HN4 ⊢;clear hNN HK4;obtain⟨hh,p,rfl,hp,hip,hpv,hpl⟩:=HR.out;simp only[Act.put];go_loopw [1] (fun iv wr=>∃(hh:Nat) (p:Kid) (r:Nat),iv=.int .i64 (r:Int)/\Hid (wr.heap[N]? =some (.cells (kidc hh p).toArray 86 (0,0)))/\Hid (NodeR (fun g=>g<W.heap.size) wr hh p/\r<p.l.length/\p.l.getD r zeroV=v/\p.l.length<=200000)/\Hid (wr.heap[W.heap.size+1]? =some (.cells #[.int .i64 0,.int .i64 0,.string ⟨#[]⟩,.pointer none] 35 (0,0)))/\Hid (Below W.heap.size W wr)) (fun _ wr=>hgt wr N)
  case atStart=>exact⟨hh,p,i,rfl,HN4,⟨hp.low HB4.out,hip,hpv,hpl⟩,HY4,HB4⟩
  case round=>
    clear HR hp hip hpv hpl HN4 HB4 HX3 HB3 HB1 HX1 HS1 HH HS HONE HY4 HY3 HY1 HS3;obtain⟨hh,q,r,rfl,HN,HP,HY,HB⟩:=hrel;obtain⟨hq,hrq,hqv,hql⟩:=HP.out;cases hh with
    |zero=>
     obtain⟨hqa,hqk,hq1,hq16,hqh⟩:=hq;obtain⟨g,cp,cur,fr,hqb,hcap,hS,hg,hcs⟩:=hqh.pos hq1;have ca2:wr.cell? ⟨N,2,none⟩=some (.slice none 0 0):=by rw[<-hqa];exact cell_in HN.out rfl
     have ca3:wr.cell? ⟨N,3,none⟩=some (.slice (some ⟨g,0,none⟩) q.k cp):=by rw[<-hqb];exact cell_in HN.out rfl
     have HRV:Hid (wr.rangeAt g (r*4) (enV v)):=fun k u hu=>by
       have hk:k<4:=(List.getElem?_eq_some_iff.1 hu).1;have hqr:q.l[r]? =some v:=by rw[List.getElem?_eq_getElem hrq,<-hqv,List.getD_eq_getElem?_getD,List.getElem?_eq_getElem hrq];rfl
       refine cell_in hg (hcs _ u ?_);rw[en_at enV_len q.l r k v hqr hk];exact hu
     obtain⟨n,hn⟩:∃n,n=q.k:=⟨_,rfl⟩
     rw[<-hn]at ca3;have hrn:r<n:=by omega
     have hri:(r:Int)<(n:Int):=by omega
     have hnil:=nodes_none';clear hqa hqk hq1 hq16 hqh hqb hcap hS hg hcs hrq hqv hql hn HP HN;go_wp2_with (first
       |(refine wpList_load_mid rfl 35 _ rfl g (r*4) rfl (enV v) _ HRV.out Tryz.underlying35 rfl val_size ?_)
       |(refine st_agg rfl 35 _ _ rfl (W.heap.size+1) (celC v) rfl rfl 35 _ HY.out val_size rfl (celC_one v) ?_;intro w6 h6 k6))
     exact bodyPost_ret (results_cell_row1 rfl _ _ (W.heap.size+1) 35 _ (0,0) _ rfl h6 Tryz.underlying35 rfl val_size) rfl ⟨rfl,HB.out.trans (k6.below (by omega))⟩
    |succ h'=>
     obtain⟨hqb,hk1,hk16,ks,hhd,hkl,hl,hks⟩:=hq;obtain⟨n,hn⟩:∃n,n=q.k:=⟨_,rfl⟩
     rw[<-hn]at hk1 hk16 hhd hkl;have HWAY:=iH (rp_way wr h' n r q ks hhd hkl hk1 hk16 (by rw[<-hl];omega) (by rw[<-hl];omega));obtain⟨g,cp,cur,fr,hqa,hcap,hS,hg,hcs⟩:=hhd.pos hk1;have ca2:wr.cell? ⟨N,2,none⟩=some (.slice (some ⟨g,0,none⟩) n cp):=by rw[<-hqa];exact cell_in HN.out rfl
     have HRG:Hid (∀k (hk:k<ks.length),wr.rangeAt g (k*4) (kidc h' ks[k])):=fun k hk=>en_range (h:=h') hg hcs hk
     have HKS:=iH hks;have HL:=iH (And.intro hl (And.intro hkl (And.intro hrq (And.intro hqv hql))));have hnil:=fun w=>nodes_some' ⟨g,0,none⟩ n cp w
     have hn16:(n:Int)<=16:=by omega
     have HLT:Hid (N<wr.heap.size):=(gZ HN.out)
     clear hqb hk1 hk16 hhd hkl hl hks hqa hcap hS hg hcs hrq hqv hql hn HP;go_upto_region 8 with(first
       |(refine ld_if rfl 86 _ rfl N rfl 86 _ _ _ HN.out Tryz.underlying86 rfl rnode_size ?_)
       |(go_at_call 111;refine HWAY.out.mono ?_;rintro e w5 ⟨k,s,rfl,hwy,hb5⟩;have HWYY:=iH hwy;have HB5:=iH hb5;clear hwy hb5))
     obtain⟨hkk,hir,hr1,hr2⟩:=HWYY.out;obtain⟨hl,hkl,hrq,hqv,hql⟩:=HL.out;have hrl:=hr2 (by rw[<-hl];exact hrq);have hb5:=HB5.out;have ca5:w5.cell? ⟨N,2,none⟩=some (.slice (some ⟨g,0,none⟩) n cp):=(hb5.cell (p:=⟨N,2,none⟩) HLT.out).trans ca2;have HRG5:Hid (w5.rangeAt g (k*4) (kidc h' ks[k])):=range_later (HRG.out k hkk) hb5;have HN5:=iH ((hb5.block N HLT.out).trans HN.out);have HY5:=iH ((hb5.block (W.heap.size+1) (by have:=HLT.out;have:=HNW.out;omega)).trans HY.out);have HBB5:=iH (tW HB.out hb5);have HQ5:Hid (NodeR (fun g=>g<W.heap.size) w5 h' ks[k]/\s<ks[k].l.length/\ks[k].l.getD s zeroV=v/\ks[k].l.length<=200000):=by
       refine⟨((HKS.out _ (List.getElem_mem hkk)).2.old.later hb5).weak fun g hg=>hg.1,hrl,?_,?_⟩
       ·rw[<-hqv,hl,cat_split hkk,hir,getD_mid hrl]
       ·have h1:=congrArg List.length (cat_split hkk)
        rw[List.length_append,List.length_append,<-hl]at h1;omega
     obtain⟨y,hy⟩:∃y,y=ks[k]:=⟨_,rfl⟩
     rw[<-hy]at HRG5 HQ5;have hkn:(k:Int)<(n:Int):=by omega
     have hkn':k<n:=by omega
     clear hkk hir hr1 hr2 hl hkl hrq hqv hql hrl hb5 hy ca2 HWYY HL HKS HRG HB5 HWAY;go_wp2_with (first
       |(refine wpList_load_mid rfl 86 _ rfl g (k*4) rfl (kidc h' y) _ HRG5.out Tryz.underlying86 rfl rnode_size ?_)
       |(refine st_agg rfl 86 _ _ rfl N (kidc h' y).toArray rfl rfl 86 _ HN5.out rnode_size rfl (kid_one h' y) ?_;intro w6 h6 k6;have HN6:=iH h6;have HK6:=iH k6;clear h6 k6))
     (try simp only[pq]);go_roundw
     case rel=>
       refine⟨h',y,s,rfl,HN6,⟨?_,HQ5.out.2⟩,HK6.out.other HY5.out (by have:=HNW.out;omega),?_⟩
       ·exact HQ5.out.1.kept HK6.out.by_ (fun X e=>by cases e;intro h;have:=HNW.out;omega)
       ·exact HBB5.out.trans (HK6.out.below (by have:=HNW.out;omega))
     case measure=>
       rw[hgt_of HN6.out,hgt_of HN.out];omega
theorem rp_Get_out {S:Nat->Prop} {c:Array Value} {l:List Cel} (W:World) (h:RootR S W c l) (i:Int) (hi:¬(0<=i/\i<l.length)):
    Calls Tryz.prog 91 #[.agg c,.int .i64 i] W fun e W'=>e=.returned (.tuple #[.agg (celC zeroV),.bool false])/\Below W.heap.size W W':=by
  obtain⟨w1,hw1⟩:∃w1,(W.alloc (.cells c 88)).alloc (.cells #[.int .i64 0,.int .i64 0,.string ⟨#[]⟩,.pointer none] 35)=w1:=⟨_,rfl⟩
  obtain⟨hb1,hx1,hy1,hs1⟩:=two_new hw1;have HY1:=iH hy1;have HX1:=iH hx1;have HB1:=iH hb1;have HS1:=iH hs1;have HS:=iH h.size;have HH:=iH (rp_has w1 (h.later hb1) i);rw[show decide (0<=i/\i<l.length)=false by simpa using hi]at HH;clear hb1 hx1 hy1 hs1 h hi;go_enter Tryz.func91,Tryz.ntmps91;go_upto_region 1 with fail
  clear hw1;go_wp2_with (first
    |(refine ld_if rfl 88 _ rfl W.heap.size rfl 88 _ _ _ HX1.out Tryz.underlying88 rfl (by rw[HS.out];exact rope_size) ?_)
    |(go_at_call 81
      refine HH.out.mono ?_;rintro e w3 ⟨rfl,hb3⟩;have HB3:=iH (tW HB1.out hb3);have HY3:=iH ((hb3.block (W.heap.size+1) (by have:=HS1.out;omega)).trans HY1.out);have HL3:Hid (W.heap.size+1<w3.heap.size):=(by have h1:=HS1.out;have h2:=hb3.size;show _<_;omega)
      clear hb3)
    |(refine ld_if rfl 35 _ rfl w3.heap.size rfl 35 _ _ _ (heap_alloc_last _ _) Tryz.underlying35 rfl val_size ?_)
    |(refine st_agg rfl 35 _ _ rfl (W.heap.size+1) #[.int .i64 0,.int .i64 0,.string ⟨#[]⟩,.pointer none] rfl rfl 35 _ (((Below.newly' w3 _).block _ HL3.out).trans HY3.out) val_size rfl (by simp[Value.oneCell']) ?_;intro w6 h6 k6))
  exact bodyPost_ret (results_cell_row1 rfl _ _ (W.heap.size+1) 35 _ (0,0) _ rfl h6 Tryz.underlying35 rfl val_size) rfl ⟨rfl,(HB3.out.trans ((Below.newly' w3 _).mono HB3.out.size)).trans (k6.below (by omega))⟩
theorem rp_Get {S:Nat->Prop} {c:Array Value} {l:List Cel} (W:World) (h:RootR S W c l) (i:Int) (hN:l.length<=200000):
  Calls Tryz.prog 91 #[.agg c,.int .i64 i] W fun e W'=>e=.returned (.tuple #[.agg (celC (if 0<=i/\i<l.length then l.getD i.toNat zeroV else zeroV)),.bool (decide (0<=i/\i<l.length))])/\Below W.heap.size W W':=by
 by_cases hi:0<=i/\i<l.length
 ·obtain⟨j,rfl⟩:∃j:Nat,i=(j:Int):=⟨i.toNat,by omega⟩
  rw[if_pos hi,decide_eq_true hi,Int.toNat_natCast];exact rp_Get_in W h j (by omega) hN
 ·rw[if_neg hi,decide_eq_false hi]
  exact rp_Get_out W h i hi
theorem sc_Check (k n:Int) (t:ByteArray) (w:World):
  Calls Tryz.prog 116 #[scV k n t] w fun e w'=>e=.returned (.int .i64 (chkSc (scT k n t)))/\Below w.heap.size w w':=by
 have HN:=iH (Below.newly' w (.cells #[.int .i64 k,.int .i64 n,.string t] 32));have te:=toL_isEmpty t;by_cases hk:k=0\/k=1\/k=2\/k=3
 case neg=>
  have q0:(k==0)=false:=beq_eq_false_iff_ne.2 (by omega);have q1:(k==1)=false:=beq_eq_false_iff_ne.2 (by omega);have q2:(k==2)=false:=beq_eq_false_iff_ne.2 (by omega);have q3:(k==3)=false:=beq_eq_false_iff_ne.2 (by omega);have HC:Hid (chkSc (scT k n t)=3):=by show _=_;unfold chkSc;rw[if_pos (by simp only;omega)]
  clear hk te;go_enter Tryz.func116,Tryz.ntmps116;go_wp2
  go_ret;exact⟨ret_nat (by rw[HC.out]),HN.out⟩
 by_cases ht0:t.data.toList=[]
 ·rw[decide_eq_true ht0]at te
  have HT:=iH ht0;clear ht0;rcases hk with rfl|rfl|rfl|rfl
  ·by_cases n0:n=0
   ·subst n0
    go_enter Tryz.func116,Tryz.ntmps116;go_wp2
    go_ret;exact⟨ret_nat (by simp only[chkSc];simp[HT.out]),HN.out⟩
   ·have hn':(n !=0)=true:=bne_iff_ne.2 n0
    go_enter Tryz.func116,Tryz.ntmps116;go_wp2
    go_ret;exact⟨ret_nat (by simp only[chkSc];simp[HT.out,n0]),HN.out⟩
  ·by_cases n0:n=0
   ·subst n0
    go_enter Tryz.func116,Tryz.ntmps116;go_wp2
    go_ret;exact⟨ret_nat (by simp only[chkSc];simp[HT.out]),HN.out⟩
   ·have hn':(n !=0)=true:=bne_iff_ne.2 n0
    by_cases n1:n=1
    ·subst n1
     go_enter Tryz.func116,Tryz.ntmps116;go_wp2
     go_ret;exact⟨ret_nat (by simp only[chkSc];simp[HT.out]),HN.out⟩
    ·have hm':(n !=1)=true:=bne_iff_ne.2 n1
     go_enter Tryz.func116,Tryz.ntmps116;go_wp2
     go_ret;exact⟨ret_nat (by simp only[chkSc];simp[HT.out,n0,n1]),HN.out⟩
  ·by_cases n0:n=0
   ·subst n0
    go_enter Tryz.func116,Tryz.ntmps116;go_wp2
    go_ret;exact⟨ret_nat (by simp only[chkSc];simp[HT.out]),HN.out⟩
   ·have hn':(n !=0)=true:=bne_iff_ne.2 n0
    go_enter Tryz.func116,Tryz.ntmps116;go_wp2
    go_ret;exact⟨ret_nat (by simp only[chkSc];simp[HT.out,n0]),HN.out⟩
  ·by_cases n0:n=0
   ·subst n0
    go_enter Tryz.func116,Tryz.ntmps116;go_wp2
    go_ret;exact⟨ret_nat (by simp only[chkSc];simp[HT.out]),HN.out⟩
   ·have hn':(n !=0)=true:=bne_iff_ne.2 n0
    go_enter Tryz.func116,Tryz.ntmps116;go_wp2
    go_ret;exact⟨ret_nat (by simp only[chkSc];simp[HT.out,n0]),HN.out⟩
 ·rw[decide_eq_false ht0]at te
  have HT:=iH ht0;clear ht0;rcases hk with rfl|rfl|rfl|rfl
  ·by_cases n0:n=0
   ·subst n0
    go_enter Tryz.func116,Tryz.ntmps116;go_wp2
    go_ret;exact⟨ret_nat (by simp only[chkSc];simp[HT.out]),HN.out⟩
   ·have hn':(n !=0)=true:=bne_iff_ne.2 n0
    go_enter Tryz.func116,Tryz.ntmps116;go_wp2
    go_ret;exact⟨ret_nat (by simp only[chkSc];simp[HT.out,n0]),HN.out⟩
  ·by_cases n0:n=0
   ·subst n0
    go_enter Tryz.func116,Tryz.ntmps116;go_wp2
    go_ret;exact⟨ret_nat (by simp only[chkSc];simp[HT.out]),HN.out⟩
   ·have hn':(n !=0)=true:=bne_iff_ne.2 n0
    by_cases n1:n=1
    ·subst n1
     go_enter Tryz.func116,Tryz.ntmps116;go_wp2
     go_ret;exact⟨ret_nat (by simp only[chkSc];simp[HT.out]),HN.out⟩
    ·have hm':(n !=1)=true:=bne_iff_ne.2 n1
     go_enter Tryz.func116,Tryz.ntmps116;go_wp2
     go_ret;exact⟨ret_nat (by simp only[chkSc];simp[HT.out,n0,n1]),HN.out⟩
  ·by_cases n0:n=0
   ·subst n0
    go_enter Tryz.func116,Tryz.ntmps116;go_wp2
    go_ret;exact⟨ret_nat (by simp only[chkSc];simp[HT.out]),HN.out⟩
   ·have hn':(n !=0)=true:=bne_iff_ne.2 n0
    go_enter Tryz.func116,Tryz.ntmps116;go_wp2
    go_ret;exact⟨ret_nat (by simp only[chkSc];simp[HT.out,n0]),HN.out⟩
  ·by_cases n0:n=0
   ·subst n0
    go_enter Tryz.func116,Tryz.ntmps116;go_wp2
    go_ret;exact⟨ret_nat (by simp only[chkSc];simp[HT.out]),HN.out⟩
   ·have hn':(n !=0)=true:=bne_iff_ne.2 n0
    go_enter Tryz.func116,Tryz.ntmps116;go_wp2
    go_ret;exact⟨ret_nat (by simp only[chkSc];simp[HT.out,n0]),HN.out⟩
end Go.Proofs.YtengibnpebfblaaGreatDoor
