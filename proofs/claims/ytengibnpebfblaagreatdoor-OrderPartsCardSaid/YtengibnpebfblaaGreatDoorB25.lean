import Derived.Test.YtengibnpebfblaaGreatDoorB21
import Derived.Test.YtengibnpebfblaaGreatDoorB24
set_option maxRecDepth 1000000
set_option maxHeartbeats 8000000
set_option linter.unusedSimpArgs false
namespace Go.Proofs.YtengibnpebfblaaGreatDoor
open Go.RowKit Go.Shelf Go.Lib Go.Sort
theorem hm_cmp (hs:ByteArray->Nat) (b1 b2:Nat) (e1 e2:Ent) (w:World) {fr1 fr2:Nat×Nat} (h1:w.heap[b1]? =some (.cells (entC hs e1) 163 fr1)) (h2:w.heap[b2]? =some (.cells (entC hs e2) 163 fr2)):
  Calls Tryz.prog 125 #[pv (some b1),pv (some b2)] w fun r w'=>r=.returned (.int .i64 (orderS (kb e1.1) (kb e2.1)))/\∃q,w'=w.drewN q:=by
 have c1:w.cell? ⟨b1,0,none⟩=some (.string e1.1):=cell_in h1 rfl;have c2:w.cell? ⟨b2,0,none⟩=some (.string e2.1):=cell_in h2 rfl;have HO:=iH (fun w=>q_Order e1.1 e2.1 w);unfold pv;clear h1 h2;go_enter Tryz.func125,Tryz.ntmps125;go_upto_region 1 with fail
 go_quiet (first|(go_at_call 40;exact Calls.quiet_of_same ((HO.out _).mono fun _ _ h=>⟨h.1,h.2.symm⟩)))
 go_wp2_with fail
 go_ret;exact⟨rfl,_,rfl⟩
def cf2 {T:Type} (f:T->Ent) (x y:T):Int:=orderS (kb (f x).1) (kb (f y).1)
theorem cf2_lt {T:Type} (f:T->Ent) (x y:T):ltOf (cf2 f) x y=decide (kb (f x).1<kb (f y).1):=by
 have h:=orderS_less (kb (f x).1) (kb (f y).1);have hr:=orderS_range (kb (f x).1) (kb (f y).1);unfold ltOf cf2;rw[decide_eq_decide,<-h];omega
theorem cf2_swo {T:Type} (f:T->Ent):SWO (ltOf (cf2 f)) where
 irrefl x:=by rw[cf2_lt,decide_eq_false_iff_not];exact lt_irrefl_l _
 trans x y z h1 h2:=by
  rw[cf2_lt,decide_eq_true_eq]at h1 h2 ⊢;exact List.lt_trans h1 h2
 ntrans x y z h1 h2:=by
  rw[cf2_lt,decide_eq_false_iff_not]at h1 h2 ⊢;intro h3;rcases tri (f x).1 (f y).1 with h|h|h
  ·exact h1 h
  ·rw[h]at h3;exact h2 h3
  ·exact h2 (List.lt_trans h h3)
theorem sw_type {α:Type} [Inhabited α] (enc:α->Value) (w:World) (blk off m:Nat) (dk:Array α) (os:Array Obj) {cur:Array Value} {T:TypeId} {fr:Nat×Nat} (h:w.heap[blk]? =some (.cells cur T fr)):∃cur',(sortWorld enc w blk off m dk os).heap[blk]? =some (.cells cur' T fr):=by
 have hlt:=(gZ h)
 unfold sortWorld grow putRow mapBlock;simp only;rw[Array.getElem?_append_left (by simp;exact hlt),Array.getElem?_modify,if_pos rfl];rw[show(Sort.ahead w m).heap=w.heap from rfl,h];exact⟨_,rfl⟩
def TypedE (w:World) (v:Value):Prop:=∀(g n c:Nat),v=.slice (some ⟨g,0,none⟩) n c->∃cur,w.heap[g]? =some (.cells cur 161 (0,0))
theorem Eps.typed {B:Nat} {v:Value} {ps:List Nat} {w:World} (h:Eps B v ps w):TypedE w v:=by
 obtain⟨⟨_,h2⟩,_⟩:=h;rcases h2 with⟨rfl,_⟩|⟨g,cap,cur,rfl,_,hg,_⟩
 ·intro g n c e
  cases e
 ·intro g' n c e
  simp only[Value.slice.injEq,Option.some.injEq,Addr.mk.injEq]at e;obtain⟨⟨rfl,_⟩,_⟩:=e;exact⟨cur,hg⟩
theorem hm_sort (hs:ByteArray->Nat) (S:Nat->Prop) (B:Nat) (w:World) (v:Value) (qs:List (Nat×Ent)) (he:Eps B v (qs.map (·.1)) w) (hq:∀q∈qs,EntAt hs S w q.1 q.2) (hn:qs.length<=100000):
  Calls Tryz.prog 124 #[v,.func (.func 125) #[] #[]] w fun r w'=>r=.returned (.tuple #[])/\∃qs':List (Nat×Ent),qs'.Perm qs/\(qs'.map (·.2)).Pairwise (fun a b=>¬kb b.1<kb a.1)/\CutAt (fun g=>B<=g) w' 1 v (en enE (qs'.map (·.1))) qs'.length/\TypedE w' v/\Ap B w w':=by
 rcases Nat.eq_zero_or_pos qs.length with h0|h0
 ·obtain rfl:qs=[]:=List.eq_nil_of_length_eq_zero h0
  have hc:=ownsRow_cut he.1;have hty:=he.typed;obtain⟨a,c,rfl⟩:=he.len;have h:=AnyF.slices_SortFunc_none {Tryz.sortL with} a c (.func (.func 125) #[] #[]) w;refine Calls.mono (P:=Tryz.prog) (f:=124) h ?_;rintro r w' ⟨rfl,rfl⟩;exact⟨rfl,[],List.Perm.refl _,List.Pairwise.nil,hc,hty,Ap.refl _ _⟩
 ·have hc0:=ownsRow_cut he.1
  obtain⟨g,cp,cur,rfl,hB,hg,hcp,hcs⟩:∃g c cur,v=.slice (some ⟨g,0,none⟩) qs.length c/\B<=g/\w.heap[g]? =some (.cells cur 161 (0,0))/\qs.length<=c/\∀(j:Nat) (u:Value),(en enE (qs.map (·.1)))[j]? =some u->cur[j]? =some u:=by
   obtain⟨_,⟨g,c,cur,rfl,h1,h2,h3,h4⟩⟩:=(ownsRow_headZ he.1 (by rw[List.length_map];exact h0)).2.resolve_left (by rw[List.length_map];omega);rw[List.length_map]at h1;exact⟨g,c,cur,by rw[List.length_map],h2,h3,h1,h4⟩
  have hin:Inhabited {q:Nat×Ent//q∈qs}:=⟨⟨qs[0],List.getElem_mem h0⟩⟩
  obtain⟨d,hd⟩:∃d:Array {q:Nat×Ent//q∈qs},d=qs.attach.toArray:=⟨_,rfl⟩
  have hds:d.size=qs.length:=by rw[hd];simp
  have hdl:d.toList.map Subtype.val=qs:=by rw[hd,List.toList_toArray];exact List.attach_map_subtype_val qs
  have hda:∀j,j<d.size->qs[j]? =some (d[j]!).1:=fun j hj=>by
   have e:(d.toList.map Subtype.val)[j]? =qs[j]? :=congrArg (fun l=>l[j]?) hdl;refine e.symm.trans ?_;rw[List.getElem?_map,Array.getElem?_toList,Array.getElem?_eq_getElem hj,getElem!_pos d j hj];rfl
  have hHo:Holds (fun q:{q:Nat×Ent//q∈qs}=>pv (some q.1.1)) w g 0 d:=fun j hj=>by
   have hq:=hcs j (pv (some (d[j]!).1.1)) (by rw[flat_ps,hda j hj];rfl);refine⟨by rw[Nat.zero_add];exact cell_in hg hq,?_⟩;simp[World.frozen?,hg]
  have hne:∀q∈qs,q.1≠g:=fun q hq' e=>by
   obtain⟨_,fr,hx⟩:=hq q hq';rw[e,hg]at hx;simp only[Option.some.injEq,Obj.cells.injEq]at hx;exact absurd hx.2.1 (by decide)
  have hcmp:CmpReads Tryz.prog 125 #[] (fun q:{q:Nat×Ent//q∈qs}=>pv (some q.1.1)) (cf2 fun q=>q.1.2) g 0 d.size w:=fun m os dk _ x y=>by
   obtain⟨_,fr,hx⟩:=hq x.1 x.2;obtain⟨_,fr',hy⟩:=hq y.1 y.2;have hx2:=(sw_block (fun q:{q:Nat×Ent//q∈qs}=>pv (some q.1.1)) w g 0 m dk os (gZ hx) (hne x.1 x.2)).trans hx;have hy2:=(sw_block (fun q:{q:Nat×Ent//q∈qs}=>pv (some q.1.1)) w g 0 m dk os (gZ hy) (hne y.1 y.2)).trans hy;exact hm_cmp hs x.1.1 y.1.1 x.1.2 y.1.2 _ hx2 hy2
  have eg:∀args w,(callFunc 125 args).run Tryz.prog w=.ok (.enter 125 args) w:=enters_of Tryz.func125 (by kernel_rfl) rfl
  have hcon:=Any.slices_SortFunc Tryz.sortL (fun q:{q:Nat×Ent//q∈qs}=>pv (some q.1.1)) (fun _=>rfl) (cf2 fun q=>q.1.2) (cf2_swo _) 125 #[] g 0 cp d w eg hcmp.lays hHo (gZ hg) (by rw[hds];omega);change Calls Tryz.prog 124 _ _ _ at hcon
  rw[hds]at hcon;refine hcon.mono ?_;rintro r w' ⟨rfl,d',n,os,⟨hsz,_,hperm⟩,hsort,rfl⟩;have hd's:d'.size=qs.length:=by rw[hsz,hds]
  have hp':d'.toList.Perm d.toList:=by
   have e1:d'.extract 0 qs.length=d':=by rw[<-hd's];simp
   have e2:d.extract 0 qs.length=d:=by rw[<-hds];simp
   rw[e1,e2]at hperm;exact hperm
  have hHo':=holds_sortWorld (fun q:{q:Nat×Ent//q∈qs}=>pv (some q.1.1)) w g 0 n d d' os (gZ hg) hHo (by rw[hsz]);have hl':(d'.toList.map Subtype.val).length=qs.length:=by rw[List.length_map,Array.length_toList,hd's]
  refine⟨rfl,d'.toList.map Subtype.val,?_,?_,?_,?_,?_⟩
  ·have:=hp'.map Subtype.val
   rwa[hdl]at this
  ·rw[List.map_map,List.pairwise_map,List.pairwise_iff_getElem]
   intro i j hi hj hij;rw[Array.length_toList,hd's]at hi hj;have h:=hsort i j (Nat.zero_le _) hij hj;rw[cf2_lt,decide_eq_false_iff_not,getElem!_pos d' j (by omega),getElem!_pos d' i (by omega)]at h;simpa using h
  ·rw[hl']
   refine⟨_,cp,rfl,hcp,by rw[en_len enE_len,List.length_map,hl'],.inr ⟨g,0,rfl,hB,?_,fun j u hu=> ?_⟩⟩
   ·exact Nat.lt_of_lt_of_le (gZ hg) (by simp[sortWorld,grow,putRow,mapBlock])
   ·rw[flat_ps]at hu
    obtain⟨q,hq1,rfl⟩:=Option.map_eq_some_iff.1 hu;have hj:=(List.getElem?_eq_some_iff.1 hq1).1;rw[hl']at hj;have h:=(hHo' j (by omega)).1;rw[List.getElem?_map,Array.getElem?_toList,Array.getElem?_eq_getElem (by omega)]at hq1;rw[getElem!_pos d' j (by omega)]at h;obtain rfl:=Option.some.inj hq1;exact h
  ·intro g' n' c' e
   simp only[Value.slice.injEq,Option.some.injEq,Addr.mk.injEq]at e;obtain⟨⟨rfl,_⟩,_⟩:=e;exact sw_type _ w _ 0 n d' os hg
  ·exact⟨sw_below _ w g 0 n d' os he.2 hB,fun k o hk ho=>(sw_block _ w g 0 n d' os (gZ hk) (fun e=>by subst e;rw[hg]at hk;cases hk;exact ho _ _ rfl)).trans hk⟩
theorem inner_size:(Tryz.prog.info? 103).map (·.size)=some 12:=by kernel_rfl
theorem scalar_size:(Tryz.prog.info? 32).map (·.size)=some 3:=by kernel_rfl
theorem nodT_leaf {a:Tr} (h:a.xs=[]):nodT a=1:=by rw[nodT_eq,h];rfl
theorem depT_leaf {a:Tr} (h:a.xs=[]):depT a=1:=by rw[depT_eq,h];rfl
theorem ValB.nod {a:Tr} (h:ValB a):nodT a<=16384:=h.1.2.2
theorem ValB.dep {a:Tr} (h:ValB a):depT a<=64:=h.1.2.1
theorem ValB.nodL {a:Tr} (h:ValB a):Go.Proofs.YtengibnpebfblaaGreatDoor.nodL a.xs<=16383:=by have:=h.nod;rw[nodT_eq]at this;omega
theorem ValB.depL {a:Tr} (h:ValB a):Go.Proofs.YtengibnpebfblaaGreatDoor.depL a.xs<=63:=by have:=h.dep;rw[depT_eq]at this;omega
theorem va_Kind (w:World) (x:Cel):Calls Tryz.prog 44 #[.agg (celC x)] w fun r w'=>r=.returned (.int .i64 x.k)/\Below w.heap.size w w':=by
 have HB:=iH (Below.newly' w (.cells (celC x) 35));go_enter Tryz.func44,Tryz.ntmps44;go_wp2
 go_ret;exact⟨rfl,HB.out⟩
theorem va_Depth {S:Nat->Prop} (w:World) (a:Tr) (x:Cel) (ha:ValB a) (hv:VAt S w a x):Calls Tryz.prog 86 #[.agg (celC x)] w fun r w'=>r=.returned (.int .i64 ((depT a:Nat):Int))/\Below w.heap.size w w':=by
 obtain⟨w1,hw1⟩:∃w1,w.alloc (.cells (celC x) 35)=w1:=⟨_,rfl⟩
 obtain⟨hb1,hx1,hs1⟩:=new_below hw1;have cp:w1.cell? ⟨w.heap.size,3,none⟩=some (.pointer x.p):=cell_in hx1 rfl;have HB1:=iH hb1;by_cases h3:a.k<=3
 ·have hp:=hv.leaf h3
  rw[depT_leaf (ha.leaf h3).2];rw[hp]at cp;clear hx1 hb1 hs1 hv ha hp;go_enter Tryz.func86,Tryz.ntmps86;go_upto_region 1 with fail
  clear hw1;go_wp2
  go_ret;exact⟨rfl,HB1.out⟩
 ·obtain⟨b,l,hp,_,_,rc,mc,d,fr,s,n,h1,_,h3',h4,h5⟩:=(hv.later hb1).parts (by omega)
  rw[hp]at cp;have HD:=iH (innC_tal h3'.size h4.size h1);have HDE:=iH ha.depL;rw[depT_eq];rw[tal_len]at h5;obtain⟨da,dc,rfl,_⟩:=h5.shape;obtain⟨k,hk⟩:∃k,k=depL a.xs:=⟨_,rfl⟩
  rw[<-hk]at HDE HD ⊢;have HT:=iH (tl_depth w1 da k dc (nodL a.xs:Int) (by have:=HDE.out;omega));clear hx1 hb1 hs1 hv ha hp h1 h3' h4 h5 hk;go_enter Tryz.func86,Tryz.ntmps86;go_upto_region 1 with fail
  clear hw1;go_wp2_with (first
   |(refine wpList_load_mid rfl 101 _ rfl b 10 rfl [.slice da k dc,.int .i64 (nodL a.xs:Int)] _ HD.out Tryz.underlying101 rfl tally_size ?_)
   |(go_at_call 85;refine HT.out.mono ?_;rintro r w2 ⟨rfl,hb2⟩;have HB2:=iH hb2;clear hb2))
  go_ret;exact⟨by first|rfl|simp,tW HB1.out HB2.out⟩
theorem va_Nodes {S:Nat->Prop} (w:World) (a:Tr) (x:Cel) (ha:ValB a) (hv:VAt S w a x):Calls Tryz.prog 60 #[.agg (celC x)] w fun r w'=>r=.returned (.int .i64 ((nodT a:Nat):Int))/\Below w.heap.size w w':=by
 obtain⟨w1,hw1⟩:∃w1,w.alloc (.cells (celC x) 35)=w1:=⟨_,rfl⟩
 obtain⟨hb1,hx1,hs1⟩:=new_below hw1;have cp:w1.cell? ⟨w.heap.size,3,none⟩=some (.pointer x.p):=cell_in hx1 rfl;have HB1:=iH hb1;by_cases h3:a.k<=3
 ·have hp:=hv.leaf h3
  rw[nodT_leaf (ha.leaf h3).2];rw[hp]at cp;clear hx1 hb1 hs1 hv ha hp;go_enter Tryz.func60,Tryz.ntmps60;go_upto_region 1 with fail
  clear hw1;go_wp2
  go_ret;exact⟨rfl,HB1.out⟩
 ·obtain⟨b,l,hp,_,_,rc,mc,d,fr,s,n,h1,_,h3',h4,h5⟩:=(hv.later hb1).parts (by omega)
  rw[hp]at cp;have cn:w1.cell? ⟨b,11,none⟩=some (.int .i64 (nodL a.xs:Int)):=innC_tal h3'.size h4.size h1 1 _ rfl;have hnn:(nodL a.xs:Int)<=100000:=by have:=ha.nodL;omega
  have hn0:(0:Int)<=(nodL a.xs:Int):=by omega
  obtain⟨k,hk⟩:∃k:Nat,k=nodL a.xs:=⟨_,rfl⟩
  rw[nodT_eq];rw[<-hk]at cn hnn hn0 ⊢;clear hx1 hb1 hs1 hv ha hp h1 h3' h4 h5 hk;go_enter Tryz.func60,Tryz.ntmps60;go_upto_region 1 with fail
  clear hw1;go_wp2
  go_ret;exact⟨by first|rfl|(simp;omega),HB1.out⟩
theorem va_tallyOf {S:Nat->Prop} (w:World) (a:Tr) (x:Cel) (ha:ValB a) (hv:VAt S w a x):Calls Tryz.prog 50 #[.agg (celC x)] w fun r w'=>∃d,r=.returned (.agg #[d,.int .i64 ((nodT a:Nat):Int)])/\CutAt (fun g=>w.heap.size<=g) w' 1 d (iv (tal [a])) (tal [a]).length/\Below w.heap.size w w':=by
 obtain⟨i,hi,hz,h1,h2⟩:=info_parts int_info;obtain⟨w1,hw1⟩:∃w1,(w.alloc (.cells (celC x) 35)).alloc (.cells #[.slice none 0 0,.int .i64 0] 101)=w1:=⟨_,rfl⟩
 obtain⟨hb1,hx1,hy1,hs1⟩:=two_new hw1;have HX1:=iH hx1;have HY1:=iH hy1;have HB1:=iH hb1;have HS1:=iH hs1;have HI:=iH (And.intro hi (And.intro hz (And.intro h1 h2)));have HD:=iH (va_Depth w1 a x ha (hv.later hb1));have HN:=iH (fun W (hb:Below w.heap.size w W)=>va_Nodes W a x ha (hv.later hb));obtain⟨k,hk⟩:∃k,k=depT a:=⟨_,rfl⟩
 have HK:Hid (k=depT a/\1<=k/\k<=64):=⟨hk,by rw[hk];exact dep_pos a,by rw[hk];exact ha.dep⟩
 rw[<-hk]at HD;have hk64:(k:Int)<=64:=by have:=HK.out;omega
 have hk1:(1:Int)<=(k:Int):=by have:=HK.out;omega
 obtain⟨j,hj⟩:∃j:Nat,k=j+1:=⟨k-1,by have:=HK.out;omega⟩
 have hj1:(k:Int)-1=(j:Int):=by omega
 have hjk:(j:Int)<(k:Int):=by omega
 have hjk':j<k:=by omega
 have HJ:=iH hj;obtain⟨q,hq⟩:∃q,q=nodT a:=⟨_,rfl⟩
 rw[<-hq]at HN ⊢;clear hx1 hy1 hb1 hs1 hi hz h1 h2 hk hv ha hj hq;go_enter Tryz.func50,Tryz.ntmps50;go_upto_region 1 with fail
 clear hw1;go_upto_region 2 with(first
  |(refine ld_if rfl 35 _ rfl w.heap.size rfl 35 _ _ _ HX1.out Tryz.underlying35 rfl val_size ?_)
  |(go_at_call 86;refine HD.out.mono ?_;rintro r w2 ⟨rfl,hb2⟩;have HB2:=iH hb2;clear hb2)
  |(refine wpList_make_s _ rfl _ _ 99 rfl 3 i (.int .i64 0) 1 Tryz.underlying99 HI.out.1 HI.out.2.1 HI.out.2.2.1 .i64 .i64 k rfl rfl (by rw[HI.out.2.2.2];omega) (by have:=HK.out;omega) ?_))
 obtain⟨w4,hw4⟩:∃w4,w4=w2.alloc (.cells (madeCells #[.int .i64 0] k) 3):=⟨_,rfl⟩
 have hb4:Below w2.heap.size w2 w4:=by rw[hw4];exact Below.newly' _ _
 have HG4:Hid (w4.heap[w2.heap.size]? =some (.cells (madeCells #[.int .i64 0] k) 3 (0,0))):=by show _=_;rw[hw4];exact heap_alloc_last _ _
 have HB4:Hid (Below w1.heap.size w1 w4):=tW HB2.out hb4;rw[<-hw4];obtain⟨G,hG⟩:∃G,G=w2.heap.size:=⟨_,rfl⟩
 have HGE:Hid (w1.heap.size<=G):=by show _<=_;rw[hG];exact HB2.out.size
 rw[<-hG]at HG4 ⊢;have cg:w4.cell? ⟨G,j,none⟩=some (.int .i64 0):=cell_in HG4.out (by rw[made_at _ _ _ (by omega)];simp[Value.cells,Nat.mod_one]);clear hw4 hb4 hG HD HB2;go_wp2_with (first
  |(refine st_cell rfl 3 _ _ rfl G j (.int .i64 1) rfl rfl rfl 3 _ HG4.out int_size (by rw[size_madeCells];have:=HJ.out;omega) ?_;intro w5 h5 k5;have HG5:=iH h5;have HB5:=iH (HB4.out.trans (k5.below HGE.out));clear h5 k5)
  |(refine ld_if rfl 35 _ rfl w.heap.size rfl 35 _ _ _ ((HB5.out.block _ (by have:=HS1.out;omega)).trans HX1.out) Tryz.underlying35 rfl val_size ?_)
  |(go_at_call 60;refine(HN.out _ (tW HB1.out HB5.out)).mono ?_;rintro r w6 ⟨rfl,hb6⟩;have HB6:=iH (tW HB5.out hb6);have HG6:=iH ((hb6.block G (gZ HG5.out)).trans HG5.out);clear hb6)
  |(refine st_agg rfl 101 _ _ rfl (w.heap.size+1) #[.slice (some ⟨G,0,none⟩) k k,.int .i64 (q:Int)] rfl rfl 101 _ ((HB6.out.block _ (by have:=HS1.out;omega)).trans HY1.out) tally_size rfl (by simp[Value.oneCell']) ?_;intro w7 h7 k7))
 have hge:=HGE.out;have hs1:=HS1.out;refine bodyPost_ret (results_cell_row rfl _ _ (w.heap.size+1) 101 _ (0,0) _ rfl h7 Tryz.underlying101 rfl tally_size) rfl ⟨_,rfl,?_,(tW HB1.out HB6.out).trans (k7.below (by omega))⟩;have ht:tal [a]=List.replicate j 0++[1]:=by rw[tal_one,<-HK.out.1,HJ.out];rfl
 rw[ht];have hl:(List.replicate j (0:Int)++[1]).length=k:=by rw[HJ.out];simp
 refine cut_fresh (k7.other HG6.out (by omega)) (by omega) hl.symm (Nat.le_refl _) fun i hi=> ?_
 rw[hl]at hi;rw[Array.getElem?_setIfInBounds];by_cases e:j=i
 ·subst e
  rw[if_pos rfl,if_pos (by rw[size_madeCells];have:=HJ.out;simp;omega)];simp
 ·rw[if_neg e,made_at _ _ _ (by omega)]
  have:i<j:=by have:=HJ.out;omega
  simp[Value.cells,Nat.mod_one,List.getElem?_append_left,this]
def bearsE (k s:Int):Int:=if s=0\/s=1\/s=2 then if k=s+4 then 0 else 3 else 1
theorem va_bears (w:World) (x:Cel) (s i:Int) (u:ByteArray):Calls Tryz.prog 63 #[.agg (celC x),.agg #[.int .i64 s,.int .i64 i,.string u]] w fun r w'=>r=.returned (.int .i64 (bearsE x.k s))/\Below w.heap.size w w':=by
 obtain⟨w1,hw1⟩:∃w1,(w.alloc (.cells (celC x) 35)).alloc (.cells #[.int .i64 s,.int .i64 i,.string u] 67)=w1:=⟨_,rfl⟩
 obtain⟨hb1,hx1,hy1,hs1⟩:=two_new hw1;have HX1:=iH hx1;have HB1:=iH hb1;have HK:=iH (va_Kind w1 x);have cs:w1.cell? ⟨w.heap.size+1,0,none⟩=some (.int .i64 s):=cell_in hy1 rfl;clear hx1 hy1 hb1 hs1;by_cases h0:s=0
 ·subst h0
  by_cases hk:x.k=4<;>(
   have e:bearsE x.k 0=if x.k=4 then 0 else 3:=by simp[bearsE]
   rw[e];first|rw[if_pos hk]|rw[if_neg hk]
   clear e;go_enter Tryz.func63,Tryz.ntmps63;go_upto_region 1 with fail
   clear hw1;go_wp2_with (first
    |(refine ld_if rfl 35 _ rfl w.heap.size rfl 35 _ _ _ HX1.out Tryz.underlying35 rfl val_size ?_)
    |(go_at_call 44;refine HK.out.mono ?_;rintro r w2 ⟨rfl,hb2⟩;have HB2:=iH hb2;clear hb2))
   go_ret;exact⟨rfl,tW HB1.out HB2.out⟩)
 by_cases h1:s=1
 ·subst h1
  by_cases hk:x.k=5<;>(
   have e:bearsE x.k 1=if x.k=5 then 0 else 3:=by simp[bearsE]
   rw[e];first|rw[if_pos hk]|rw[if_neg hk]
   clear e;go_enter Tryz.func63,Tryz.ntmps63;go_upto_region 1 with fail
   clear hw1;go_wp2_with (first
    |(refine ld_if rfl 35 _ rfl w.heap.size rfl 35 _ _ _ HX1.out Tryz.underlying35 rfl val_size ?_)
    |(go_at_call 44;refine HK.out.mono ?_;rintro r w2 ⟨rfl,hb2⟩;have HB2:=iH hb2;clear hb2))
   go_ret;exact⟨rfl,tW HB1.out HB2.out⟩)
 by_cases h2:s=2
 ·subst h2
  by_cases hk:x.k=6<;>(
   have e:bearsE x.k 2=if x.k=6 then 0 else 3:=by simp[bearsE]
   rw[e];first|rw[if_pos hk]|rw[if_neg hk]
   clear e;go_enter Tryz.func63,Tryz.ntmps63;go_upto_region 1 with fail
   clear hw1;go_wp2_with (first
    |(refine ld_if rfl 35 _ rfl w.heap.size rfl 35 _ _ _ HX1.out Tryz.underlying35 rfl val_size ?_)
    |(go_at_call 44;refine HK.out.mono ?_;rintro r w2 ⟨rfl,hb2⟩;have HB2:=iH hb2;clear hb2))
   go_ret;exact⟨rfl,tW HB1.out HB2.out⟩)
 ·have e:bearsE x.k s=1:=by simp[bearsE,h0,h1,h2]
  rw[e];clear e;go_enter Tryz.func63,Tryz.ntmps63;go_upto_region 1 with fail
  clear hw1;go_wp2_with fail
  go_ret;exact⟨rfl,HB1.out⟩
theorem len_parts {a:Tr} {l:List Cel} (ha:ValB a) (hl:l.length=a.xs.length) (h4:4<=a.k):(itemE a.k l).length+(mapE a.k a.ks a.xs l).length=a.xs.length/\(itemE a.k l).length<=16383/\(mapE a.k a.ks a.xs l).length<=16383:=by
 have hn:=ha.len;have hk:=ha.kind;by_cases h:a.k=4
 ·have e:mkeys a.k a.ks a.xs=[]:=by rw[mkeys,if_neg (by omega),if_neg (by omega)]
  rw[itemE,if_pos h,mapE,e];simp;omega
 ·have hm:=(ha.mkeys (by omega)).1
  rw[itemE,if_neg h,mapE,List.length_zip,hm,hl];simp;omega
theorem tal_le {a:Tr} (h:ValB a):(tal a.xs).length<=63:=by rw[tal_len];exact h.depL
theorem tal_rng {a:Tr} (h:ValB a):RngI (tal a.xs):=rng_tal (Nat.le_trans h.len (by omega))
theorem VAt.two {S:Nat->Prop} {w:World} {a:Tr} {x:Cel} (h:VAt S w a x) (ha:ValB a) (h4:4<=a.k):x.n=0/\x.t=⟨#[]⟩:=by
 have:=ha.inner h4;rw[h.n,h.t,this.1,this.2];exact⟨rfl,rfl⟩
theorem item_vec {k:Int} {l:List Cel} (h:k=4):itemE k l=l:=if_pos h
theorem item_map {k:Int} {l:List Cel} (h:k≠4):itemE k l=[]:=if_neg h
theorem mapE_vec {k:Int} {ks:List ByteArray} {xs:List Tr} {l:List Cel} (h:k=4):mapE k ks xs l=[]:=by
 unfold mapE mkeys;rw[if_neg (by omega),if_neg (by omega)];rfl
abbrev RiseK (M:List ByteArray):Prop:=M.Pairwise fun a b=>kb a<kb b
def idxK (M:List ByteArray) (t:ByteArray):Option Nat:=M.findIdx? fun y=>decide (y=t)
theorem idx_some {M:List ByteArray} {t:ByteArray} {j:Nat} (h:idxK M t=some j):∃hj:j<M.length,M[j]=t:=by
 obtain⟨hj,h1,_⟩:=List.findIdx?_eq_some_iff_getElem.1 h;exact⟨hj,by simpa using h1⟩
theorem idx_none {M:List ByteArray} {t:ByteArray} (h:idxK M t=none):t∉M:=fun hm=>by
 have:=(List.findIdx?_eq_none_iff.1 h) t hm;simp at this
section
variable {M : List ByteArray} {l : List Cel} {t : ByteArray} {c : Cel}
theorem zip_rise (h:RiseK M) (hl:M.length=l.length):Rise (M.zip l):=by
 unfold Rise;have e:(M.zip l).map (·.1)=M:=zip_fst M l hl;rw[<-List.pairwise_map (f:=fun x:Ent=>x.1) (R:=fun a b=>kb a<kb b),e];exact h
theorem zip_mem {e:Ent}:e∈M.zip l↔∃i:Nat,M[i]? =some e.1/\l[i]? =some e.2:=by
 rw[List.mem_iff_getElem?];constructor
 ·rintro⟨i,h⟩
  obtain⟨h1,h2⟩:=List.getElem?_zip_eq_some.1 h;exact⟨i,h1,h2⟩
 ·rintro⟨i,h1,h2⟩
  exact⟨i,List.getElem?_zip_eq_some.2 ⟨h1,h2⟩⟩
theorem get_zip_some (h:RiseK M) (hl:M.length=l.length) {j:Nat} (hi:idxK M t=some j):∃hj:j<l.length,getE (M.zip l) t=some l[j]:=by
 obtain⟨hj,e⟩:=idx_some hi;refine⟨by omega,(get_mem (zip_rise h hl)).2 (zip_mem.2 ⟨j,?_,?_⟩)⟩
 ·rw[List.getElem?_eq_getElem hj,e]
 ·rw[List.getElem?_eq_getElem]
theorem get_zip_none (hi:idxK M t=none):getE (M.zip l) t=none:=get_none.2 fun e he h=>by
 obtain⟨i,h1,_⟩:=zip_mem.1 he;exact idx_none hi (h▸List.mem_of_getElem? h1)
theorem get_zip (h:RiseK M) (hl:M.length=l.length) (t:ByteArray):getE (M.zip l) t=(idxK M t).bind fun j=>l[j]? :=by
 cases hi:idxK M t with
 |none=>rw[get_zip_none hi];rfl
 |some j=>
  obtain⟨hj,e⟩:=get_zip_some h hl hi;rw[e,Option.bind_some,List.getElem?_eq_getElem hj]
theorem rise_mem {L K:List Ent} (hL:Rise L) (hK:Rise K) (h:∀e,e∈L↔e∈K):L=K:=
 rise_perm hL hK ((List.perm_ext_iff_of_nodup (hL.imp fun h e=>lt_ne h (congrArg Prod.fst e)) (hK.imp fun h e=>lt_ne h (congrArg Prod.fst e))).2 h)
end
theorem at_idx {a:Tr} (h:a.k=5\/a.k=6) (i:Int) (t:ByteArray):atT a i t=idxK (mkeys a.k a.ks a.xs) t:=by
 unfold atT mkeys idxK;rcases h with h|h
 ·rw[if_neg (by omega),if_pos h,if_pos h]
 ·rw[if_neg (by omega),if_neg (by omega),if_neg (by omega),if_pos h,List.findIdx?_map]
  congr 1
  funext y
  simp[kB_iff]
end Go.Proofs.YtengibnpebfblaaGreatDoor
