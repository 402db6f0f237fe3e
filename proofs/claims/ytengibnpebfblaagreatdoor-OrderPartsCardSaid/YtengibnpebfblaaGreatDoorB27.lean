import Derived.Test.YtengibnpebfblaaGreatDoorB23
import Derived.Test.YtengibnpebfblaaGreatDoorB25
set_option maxRecDepth 1000000
set_option maxHeartbeats 8000000
set_option linter.unusedSimpArgs false
namespace Go.Proofs.YtengibnpebfblaaGreatDoor
open Go.RowKit Go.Shelf
attribute [local go_sem] Oper.semAt_some
theorem sorted_eq {L M:List Ent} (hL:Rise L) (hp:M.Perm L) (hs:M.Pairwise fun a b=>¬kb b.1<kb a.1):M=L:=by
 have hd:M.Pairwise fun a b=>a.1≠b.1:=(List.Perm.pairwise_iff (R:=fun(a b:Ent)=>a.1≠b.1) (fun h=>Ne.symm h) hp).2 (List.Pairwise.imp (fun h=>lt_ne h) hL)
 have hr:Rise M:=by
  refine List.Pairwise.imp ?_ (List.Pairwise.and hs hd);rintro a b ⟨h1,h2⟩;rcases tri a.1 b.1 with h|h|h
  ·exact h
  ·exact absurd h h2
  ·exact absurd h h1
 exact rise_perm hr hL hp
theorem eps_make_wp {o:Oper} {a:Act} {K:Act->World->Prop} {Q:Exit->Act->World->Prop} {w:World} (l c:Operand) (hop:o.op=.makeSlice 94 l c)
  {B:Nat} (kl kc:IntKind) (C:Int) (n:Nat) (hl:a.eval l=.int kl 0) (hc:a.eval c=.int kc C) (hC:C=(n:Int)) (hn:n<=10000000) (hB:B<=w.heap.size)
  (h:∀w',Eps B (.slice (some ⟨w.heap.size,0,none⟩) 0 n) [] w'->Below w.heap.size w w'->K (a.put o.dst (.slice (some ⟨w.heap.size,0,none⟩) 0 n)) w'):o.wp Tryz.prog a w K Q:=by
 obtain⟨i,hi,hz,h1,h2⟩:=info_parts eptr_info;obtain⟨w',hrun,r1,r2⟩:=run_make_own (P:=Tryz.prog) w B 94 161 i (.pointer none) 1 Tryz.underlying94 hi hz h1 kl kc n (by rw[h2];omega) (by unfold maxLen;omega) hB;subst hC;unfold Oper.wp;simp[execOp,hop,hl,hc,hrun,Result.andThen];have hb:Below w.heap.size w w':=(Below.refl _ _).grown r2 (Nat.le_refl _) (fun k hk=>by cases hk);exact h w' ⟨r1,Nat.le_trans hB hb.size⟩ hb
theorem eps_new_lt {B g n:Nat} {w:World} (h:Eps B (.slice (some ⟨g,0,none⟩) 0 n) [] w):g<w.heap.size:=by
 obtain⟨cur,hc⟩:=h.typed g 0 n rfl;exact(gZ hc)
def LstE (B:Nat) (w:World) (v:Value) (qs:List (Nat×Ent)):Prop:=∃(a:Option Addr) (c:Nat),v=.slice a qs.length c/\(0<qs.length->∃g cur,a=some ⟨g,0,none⟩/\B<=g/\w.heap[g]? =some (.cells cur 161 (0,0))/\∀j (hj:j<qs.length),cur[j]? =some (pv (some qs[j].1)))
theorem lst_of {B B':Nat} {w:World} {v:Value} {qs:List (Nat×Ent)} (hv:∃a c,v=.slice a qs.length c/\(∀p,a=some p->p.off=0/\p.spot=none)) (hc:CutAt (fun g=>B<=g) w 1 v (en enE (qs.map (·.1))) qs.length) (hT:TypedE w v) (hB:B'<=B):LstE B' w v qs:=by
 obtain⟨a,c,rfl,h0⟩:=hv;refine⟨a,c,rfl,fun hp=> ?_⟩;obtain⟨g,o,c',e,_,hg,_,hcell⟩:=hc.pos hp;simp only[Value.slice.injEq]at e;obtain⟨rfl,_,rfl⟩:=e;obtain⟨rfl,_⟩:=h0 _ rfl;obtain⟨cur,hcur⟩:=hT g _ _ rfl;refine⟨g,cur,rfl,Nat.le_trans hB hg,hcur,fun j hj=> ?_⟩;have h:=hcell j (pv (some qs[j].1)) (by rw[flat_ps,List.getElem?_eq_getElem hj];rfl);rw[Nat.zero_add,Lib.cell_of_heap hcur]at h;exact h
theorem hm_entries {S:Nat->Prop} (w:World) (s:Nat) (n:Int) (L:List Ent) (c:Array Value) (h:MapAt S w s n L c) (hL:Rise L) (hn:L.length<=50000) (hT:Tab6 w):
  Calls Tryz.prog 108 #[.agg c] w fun r w'=>∃(v:Value) (qs:List (Nat×Ent)),r=.returned v/\qs.map (·.2)=L/\(∀q∈qs,EntAt (hsN s n) (fun g=>S g/\g<w.heap.size) w' q.1 q.2)/\LstE w.heap.size w' v qs/\Below w.heap.size w w'/\w.heap.size+2<=w'.heap.size:=by
 have htn:1<w.heap.size:=World.block_lt_of_cell? w _ (hT 0 (by decide));obtain⟨bb,a1,n1,c1,a2,n2,c2,rfl,hnd⟩:=h;obtain⟨l,hl⟩:∃l,l=L.length:=⟨_,rfl⟩
 rw[<-hl];obtain⟨w1,hw1⟩:∃w1,w.alloc (.cells #[.int .u64 (s:Int),.int .i64 n,.int .i64 ((l:Nat):Int),.int .u32 (bb:Int),.slice a1 n1 c1,.slice a2 n2 c2] 98)=w1:=⟨_,rfl⟩
 obtain⟨hb1,hx1,hs1⟩:=new_below hw1;have HAPP:Hid (∀W,Below w1.heap.size w1 W->∀v,Eps w.heap.size v [] W->Calls Tryz.prog 123 #[.agg #[.int .u32 (bb:Int),.slice a1 n1 c1,.slice a2 n2 c2],v] W (AppRes (hsN s n) (fun g=>S g/\g<w.heap.size) w.heap.size W [] L)):=fun W hW v hv=>
  hm_app (hsN s n) 13 (Nat.le_refl _) (fun g=>S g/\g<w.heap.size) w.heap.size W L _ v [] (fun g h=>h.2) htn (hnd.old.later (tW hb1 hW)) hn hv (by simp) (hT.below (tW hb1 hW))
 have HX1:=iH hx1;have HB1:=iH hb1;have HS1:=iH hs1;have HLN:Hid (l<=50000):=by show _<=_;omega
 have HL:=iH (And.intro hL hl);have HKS:Hid (∀V,Below w1.heap.size w1 V->(V.heap[w.heap.size]? =some (.cells #[.int .u64 (s:Int),.int .i64 n,.int .i64 ((l:Nat):Int),.int .u32 (bb:Int),.slice a1 n1 c1,.slice a2 n2 c2] 98 (0,0))/\V.cell? ⟨w.heap.size,2,none⟩=some (.int .i64 (l:Int)))):=fun V hV=>by
  have h:=(hV.block _ (by have:=HS1.out;omega)).trans HX1.out;exact⟨h,cell_in h rfl⟩
 have HW:Hid (Below w1.heap.size w1 w1.drew):=drawn_below w1;clear hnd hx1 hb1 hs1 hT hn hL hl htn;go_enter Tryz.func108,Tryz.ntmps108;go_upto_region 1 with fail
 clear hw1;refine wp_region_T (S:=(fun V=>V.heap[w.heap.size]? =some (.cells #[.int .u64 (s:Int),.int .i64 n,.int .i64 ((l:Nat):Int),.int .u32 (bb:Int),.slice a1 n1 c1,.slice a2 n2 c2] 98 (0,0))/\V.cell? ⟨w.heap.size,2,none⟩=some (.int .i64 (l:Int)))) [] (by kernel_rfl) (by first|exact HKS.out _ HW.out|exact⟨HX4.out,cell_in HX4.out rfl⟩) (fun hHeld=> ?_);refine tkA 0 4 (h:=?_);refine tyA 1 5 (hy:=yieldsIf_arr (by rfl) 96 _ rfl w.heap.size 3 rfl #[.int .u32 (bb:Int),.slice a1 n1 c1,.slice a2 n2 c2] _ (fun w hw=>(map_range hw.1)) Tryz.underlying96 rfl (by exact nd_size)) (h:=?_);(try simp only[pq]);refine tkA 2 6 (h:=?_);refine tkA 3 7 (h:=?_);(try simp only[pq]);refine tkO 4 (some 8) (h:=fun K hK=> ?_);rw[if_pos (by rfl)];refine eps_make_wp _ _ rfl (B:=w.heap.size) .i64 .i64 _ l rfl rfl rfl (by have:=HLN.out;omega) (by have:=HW.out.size;have:=HB1.out.size;omega) ?_;intro w3 hi3 hb;have HI3:=iH hi3;have HG3:Hid (w.heap.size+1<=w1.drew.heap.size):=by show _<=_;have:=HW.out.size;have:=HS1.out;omega
 replace HW:=iH (tW HW.out hb);have HSZ3:Hid (w.heap.size+2<=w3.heap.size):=by
  show _<=_;have:=eps_new_lt hi3;have:=HG3.out;omega
 clear hi3 hb;refine hK.out _ _ (by first|exact HKS.out _ HW.out|exact⟨HX4.out,cell_in HX4.out rfl⟩) (fun hHeld=> ?_);clear hK K;(try simp only[pq]);refine tkO 5 (some 9) (h:=fun K hK=> ?_);go_simp;go_at_call 123;refine(HAPP.out w3 (by exact HW.out) _ HI3.out).mono ?_;rintro r w4 ⟨v4,qs4,rfl,hp4,hq4,he4,ha4⟩;have HP4:=iH hp4;have HQ4:=iH hq4;have HE4:=iH he4;have HA4:=iH ha4;have HW4:Hid (Below w.heap.size w1 w4):=by show Below _ _ _;exact(HW.out.mono HB1.out.size).trans ha4.below
 have HX4:Hid (w4.heap[w.heap.size]? =some (.cells #[.int .u64 (s:Int),.int .i64 n,.int .i64 ((l:Nat):Int),.int .u32 (bb:Int),.slice a1 n1 c1,.slice a2 n2 c2] 98 (0,0))):=ha4.row ((HW.out.block _ (by have:=HS1.out;omega)).trans HX1.out) (by decide);clear hp4 hq4 he4 ha4;dsimp only;refine hK.out _ _ (by first|exact HKS.out _ HW.out|exact⟨HX4.out,cell_in HX4.out rfl⟩) (fun hHeld=> ?_);clear hK K;(try simp only[pq]);refine tkA 6 3 (h:=?_);(try simp only[pq]);refine wpAnyT_done (by kernel_rfl) ?_ _;clear hHeld;have hqn:qs4.length<=50000:=by
  have h:=HP4.out.length_eq;rw[List.length_map]at h;have:=HLN.out;have:=HL.out.2;omega
 have HE4':Hid (Eps w.heap.size v4 (qs4.map (·.1)) w4):=HE4.out;have hsrt:=hm_sort (hsN s n) (fun g=>S g/\g<w.heap.size) w.heap.size w4 v4 qs4 HE4'.out HQ4.out (by omega);have HSRT:=iH hsrt;clear hsrt;go_wp2_with (go_at_call 124;(with_reducible refine HSRT.out.mono ?_);rintro r w5 ⟨rfl,qs5,hp5,hs5,hc5,ht5,ha5⟩;have HR5:=iH (And.intro hp5 (And.intro hs5 (And.intro hc5 (And.intro ht5 ha5))));clear hp5 hs5 hc5 ht5 ha5)
 obtain⟨hp5,hs5,hc5,ht5,ha5⟩:=HR5.out;have hlen5:qs5.length=qs4.length:=hp5.length_eq;have hv:∃a c,v4=.slice a qs5.length c/\(∀p,a=some p->p.off=0/\p.spot=none):=by
  obtain⟨⟨_,h2⟩,_⟩:=HE4'.out;rw[List.length_map]at h2;rcases h2 with⟨rfl,h2⟩|⟨g,cap,cur,rfl,_⟩
  ·exact⟨none,0,by rw[hlen5,h2],fun p e=>by cases e⟩
  ·exact⟨_,_,by rw[hlen5],fun p e=>by cases e;exact⟨rfl,rfl⟩⟩
 have hbw5:Below w.heap.size w w5:=(HB1.out.trans HW4.out).trans ha5.below;have hfin:∃(v:Value) (qs:List (Nat×Ent)),Ending.returned v4=.returned v/\qs.map (·.2)=L/\(∀q∈qs,EntAt (hsN s n) (fun g=>S g/\g<w.heap.size) w5 q.1 q.2)/\LstE w.heap.size w5 v qs/\Below w.heap.size w w5/\w.heap.size+2<=w5.heap.size:=by
  refine⟨v4,qs5,rfl,sorted_eq HL.out.1 ((hp5.map _).trans HP4.out) hs5,fun q hq=> ?_,lst_of hv hc5 ht5 (Nat.le_refl _),hbw5,?_⟩
  ·exact(HQ4.out q (hp5.mem_iff.1 hq)).kp (ha5.kp fun g h=>h.2)
  ·have h1:=HSZ3.out
   have h2:=HA4.out.below.size;have h3:=ha5.below.size;omega
 go_ret;exact hfin
end Go.Proofs.YtengibnpebfblaaGreatDoor
namespace Go.Proofs.YtengibnpebfblaaGreatDoor
open Go.RowKit Go.Shelf
attribute [local go_sem] Oper.semAt_some
abbrev encM (e:Ent):Array Value:=#[.string e.1,.agg (celC e.2)]
structure MapKeeps (RK IK:Nat->World->World->Prop) (n₀:Nat):Prop where
 new:∀{Y:Nat} {A B:World},Below A.heap.size A B->Y<=A.heap.size->IK Y A B
 low:∀{Y:Nat} {A B:World},RK Y A B->Below n₀ A B
 lists:∀{Y:Nat} {A B:World},RK Y A B->TK 161 A B
theorem kw_mapKeeps {Ts:TypeId->Prop} (n₀:Nat) (h1:¬Ts 161):MapKeeps (fun Y A B=>KW Ts n₀ Y A B) (fun Y A B=>IKW Ts Y A B) n₀ where
 new:=fun h hY=>IKW.below h hY
 low:=fun h=>h.1
 lists:=fun h i cs fr e=>h.2.2.1 i cs _ fr e h1
theorem hm_All_in (n:Nat) (c:Array Value) (w:World):
  CallsIn Fence.wide n Tryz.prog 79 #[.agg c] w fun e w'=>e=.returned (.func (.func 107) #[] #[.pointer (some ⟨w.heap.size,0,none⟩)])/\w'=w.alloc (.cells c 98):=by
 refine callsIn_of_wp Tryz.func79 rfl trivial ?_ rfl;simp only[Tryz.ntmps79,List.size_toArray,List.length_cons,List.length_nil,Nat.reduceAdd,Nat.reduceSub,Array.replicate_succ,Array.replicate_zero,List.push_toArray,List.append_toArray,List.nil_append,List.cons_append];gi_wp2
 go_ret;exact⟨rfl,rfl⟩
theorem hm_all1 {RK IK:Nat->World->World->Prop} (Bs n₀:Nat) (hkk:MapKeeps RK IK n₀) (s:Nat) (n:Int) (L:List Ent) (c:Array Value) (w:World) (hn₀:n₀<=w.heap.size) (hX:w.heap[Bs]? =some (.cells c 98 (0,0))) (hv:MapAt (fun g=>g<n₀) w s n L c) (hL:Rise L) (hN:L.length<=50000) (hT:Tab6 w):
  IterR Tryz.prog 107 #[.pointer (some ⟨Bs,0,none⟩)] encM RK IK (fun ys=>ys=L) (fun pre=>pre<+:L) (fun pre=>pre<+:L) w:=by
 intro l J Jx W hW hA hY h0 m;have hBl:=(gZ hX)
 have HX:=iH ((hW.block _ hBl).trans hX);have hnW:n₀<=W.heap.size:=Nat.le_trans hn₀ hW.size;have HENT:=iH ((callsIn_wide (n:=m-1)).2 (hm_entries W s n L c (hv.kp (Kp.low (hW.mono hn₀) (fun g h=>h))) hL hN (hT.below hW)));have HMS:=iH hv.size;have HJA:=iH hA;have HY:=iH (hY (m-1));have HNW:=iH hnW;have HN:=iH hN;have HKK:=iH hkk;clear hX hv hN hT hA hY hBl hnW hL hkk;refine callsIn_of_wp Tryz.func107 rfl trivial ?_ rfl;simp only[Tryz.ntmps107,List.size_toArray,List.length_cons,List.length_nil,Nat.reduceAdd,Nat.reduceSub,Array.replicate_succ,Array.replicate_zero,List.push_toArray,List.append_toArray,List.nil_append,List.cons_append];gi_wp2_with (first
  |(refine ld_wide rfl 98 _ rfl Bs rfl 98 _ _ _ HX.out Tryz.underlying98 rfl (by rw[HMS.out];exact map_size) ?_))
 refine⟨trivial,fun h=>absurd h (by simp[Fence.wide]),?_⟩;refine HENT.out.mono ?_;rintro r w1 ⟨v,qs,rfl,hq,he,hl,hb,hsz⟩;obtain⟨a,cp,rfl,hl⟩:=hl;obtain⟨N,hNq⟩:∃N,N=qs.length:=⟨_,rfl⟩
 have hNL:N=L.length:=by rw[hNq,<-hq,List.length_map]
 rw[<-hNq];have HJ1:=iH (HJA.out _ _ _ h0 (HKK.out.new hb (Nat.le_refl _)));have HB1:=iH hb;have HSZ:=iH hsz;have HLL:=iH hl;have HE:=iH he;have HQ:=iH (And.intro hq (And.intro hNq hNL));have hN5:(N:Int)<=50000:=by have:=HN.out;omega
 have HBN:=iH (hb.mono HNW.out);clear h0 hb hsz hl he hq hNq hNL;gi_wp2
 gi_loopw [8] (fun i wr=>∃k:Nat,i=.int .i64 (k:Int)/\k<=N/\Hid (J (L.take k) wr)/\Hid (Below n₀ W wr)/\Hid (TK 161 w1 wr)/\Hid (W.heap.size+2<=wr.heap.size)) (fun i _=>N-(intOf i).toNat)
 case atStart=>exact⟨0,rfl,Nat.zero_le _,(by simpa using HJ1),HBN,TK.refl _ _,HSZ⟩
 case round=>
  obtain⟨k,rfl,hk,HJK,HBK,HTK,HSK⟩:=hrel;by_cases hlt:k<N
  ·obtain⟨hq,hNq,hNL⟩:=HQ.out
   obtain⟨g,cur,rfl,hg,hcur,hcc⟩:=HLL.out (by omega);have hkq:k<qs.length:=by omega
   have hkL:k<L.length:=by omega
   have hLk:L[k]=qs[k].2:=by
    have e:(qs.map (·.2))[k]? =L[k]? :=by rw[hq]
    rw[List.getElem?_map,List.getElem?_eq_getElem hkq,List.getElem?_eq_getElem hkL]at e;exact(Option.some.inj e).symm
   obtain⟨⟨hbn,hbW⟩,fr,hbl⟩:=HE.out _ (List.getElem_mem hkq);have hbr:wr.heap[qs[k].1]? =some (.cells (entC (hsN s n) qs[k].2) 163 fr):=(HBK.out.block _ hbn).trans ((HB1.out.block _ hbW).symm.trans hbl);have hcg:wr.cell? ⟨g,k,none⟩=some (pv (some qs[k].1)):=cell_in (HTK.out _ _ _ hcur) (hcc k (by omega));have HTAKE:=iH (List.take_succ_eq_append_getElem hkL);have HYK:=iH (HY.out (L.take k) L[k] wr.drew (HJA.out _ _ _ HJK.out (HKK.out.new (drawn_below wr) (by have:=HSK.out;omega))) (by have:=HSK.out;show _<=wr.heap.size;omega) (by rw[<-List.take_succ_eq_append_getElem hkL];exact List.take_prefix _ _));rw[hLk]at HYK HTAKE;obtain⟨⟨b,e⟩,hbe⟩:∃q,q=qs[k]:=⟨_,rfl⟩
   rw[<-hbe]at HYK HTAKE hbr hcg;have ce0:wr.drew.cell? ⟨b,0,none⟩=some (.string e.1):=cell_in hbr rfl;have ce2:wr.drew.rangeAt b 2 (enV e.2):=ent_range (W:=wr.drew) hbr;have HCE:=iH (And.intro ce0 ce2);have hlt':(k:Int)<N:=by omega
   have HLT:=iH hlt;unfold pv at hcg;clear hbe hbr hbl hbn hbW hLk hkq hkL hcur hcc hg hq hNq hNL ce0 ce2;gi_wp2
   refine wpIn_region_W (S:=fun V=>V.cell? ⟨b,0,none⟩=some (.string e.1)/\V.rangeAt b 2 (enV e.2)) [9,10] (by kernel_rfl) HCE.out (fun hHeld=> ?_);refine wpAnyW_take (i:=0) (oi:=⟨some 12,_,_,_,_,_⟩) (v:=?v0) rfl (by kernel_rfl) (by kernel_rfl) (by kernel_rfl) (by kernel_rfl) (fun _ _ _ h=>h) (Or.inl ⟨by rfl,?h0⟩) (by assumption) ?r0
   case h0=>(intro w hSw;(try dsimp only at hSw);first|(go_simp;done)|(go_simp;with_reducible rfl))
   (try simp only[pq]);refine wpAnyW_take (i:=1) (oi:=⟨some 13,_,_,_,_,_⟩) (v:=?v1) rfl (by kernel_rfl) (by kernel_rfl) (by kernel_rfl) (by kernel_rfl) (fun _ _ _ h=>h) (Or.inl ⟨by rfl,?h1⟩) (by assumption) ?r1
   case h1=>(intro w hSw;(try dsimp only at hSw);first|(go_simp;done)|(go_simp;with_reducible rfl))
   (try simp only[pq]);refine wpAnyW_take (i:=2) (oi:=⟨some 14,_,_,_,_,_⟩) (v:=?v2) rfl (by kernel_rfl) (by kernel_rfl) (by kernel_rfl) (by kernel_rfl) (fun _ _ _ h=>h) (Or.inl ⟨by rfl,?h2⟩) (by assumption) ?r2
   case h2=>(intro w hSw;(try dsimp only at hSw);first|(go_simp;done)|(go_simp;with_reducible rfl))
   (try simp only[pq]);refine wpAnyW_take (i:=3) (oi:=⟨some 15,_,_,_,_,_⟩) (v:=?v3) rfl (by kernel_rfl) (by kernel_rfl) (by kernel_rfl) (by kernel_rfl) (fun _ _ _ h=>h) (Or.inl ⟨by rfl,?h3⟩) (by assumption) ?r3
   case h3=>(intro w hSw;(try dsimp only at hSw);first|(go_simp;done)|(go_simp;with_reducible rfl))
   (try simp only[pq]);refine wpAnyW_take (i:=4) (oi:=⟨some 16,_,_,_,_,_⟩) (v:=?v4) rfl (by kernel_rfl) (by kernel_rfl) (by kernel_rfl) (by kernel_rfl) (fun _ _ _ h=>h) (Or.inl ⟨by rfl,?h4⟩) (by assumption) ?r4
   case h4=>(intro w hSw;(try dsimp only at hSw);first|(go_simp;done)|(go_simp;with_reducible rfl))
   (try simp only[pq]);refine wpAnyW_take (i:=5) (oi:=⟨some 17,_,_,_,_,_⟩) (v:=?v5) rfl (by kernel_rfl) (by kernel_rfl) (by kernel_rfl) (by kernel_rfl) (fun _ _ _ h=>h) (Or.inl ⟨by rfl,?h5⟩) (by assumption) ?r5
   case h5=>(intro w hSw;(try dsimp only at hSw);first|(go_simp;done)|(go_simp;with_reducible rfl))
   (try simp only[pq]);refine wpAnyW_take (i:=6) (oi:=⟨some 18,_,_,_,_,_⟩) (v:=?v6) rfl (by kernel_rfl) (by kernel_rfl) (by kernel_rfl) (by kernel_rfl) (fun _ _ _ h=>h) (Or.inl ⟨by rfl,?h6⟩) (by assumption) ?r6
   case h6=>(intro w hSw;(try dsimp only at hSw);first|(go_simp;done)|(go_simp;with_reducible rfl))
   (try simp only[pq]);refine wpAnyW_take (i:=7) (oi:=⟨some 19,_,_,_,_,_⟩) (v:=?v7) rfl (by kernel_rfl) (by kernel_rfl) (by kernel_rfl) (by kernel_rfl) (fun _ _ _ h=>h) (Or.inl ⟨by rfl,?h7⟩) (by assumption) ?r7
   case h7=>(intro w hSw;(try dsimp only at hSw);first|(go_simp;done)|(go_simp;with_reducible rfl))
   (try simp only[pq]);refine wpAnyW_take (i:=8) (oi:=⟨some 20,_,_,_,_,_⟩) (v:=_) rfl (by kernel_rfl) (by kernel_rfl) (by kernel_rfl) (by kernel_rfl) (fun _ _ _ h=>h) (yieldsIf_arr (by rfl) 35 _ rfl b 2 rfl (celC e.2) _ (fun w hw=>hw.2) Tryz.underlying35 rfl val_size) (by assumption) ?_;(try simp only[pq]);obtain⟨fn,tmps,assign,body,hy,hR⟩:=HYK.out;unfold encM at hy;(try dsimp only at hy);refine wpAnyW_last (i:=9) (o:=⟨some 21,_,_,_,_,_⟩) (by kernel_rfl) (by decide) rfl (fun K hK=> ?_);rw[if_pos (by rfl)];go_simp;refine⟨fun h=>absurd h (by simp[Fence.wide]),?_⟩;refine hR.mono ?_;rintro e' W3 (⟨rfl,hJ3,hk3⟩|⟨rfl,hJx3⟩)
   ·have HJ3:=iH hJ3
    have HK3:=iH hk3;refine hK.out _ _ ?_;clear hK K hR hy hJ3 hk3;(try simp only[pq]);refine wpAnyW_last (i:=10) (o:=⟨some 22,_,_,_,_,_⟩) (by kernel_rfl) (by decide) rfl (fun K hK=> ?_);rw[if_pos (by rfl)];go_simp;refine hK.out _ _ ?_;clear hK K;(try simp only[pq]);refine wpAnyW_done (by kernel_rfl) ?_ _;gi_wp2
    go_roundw
    case rel=>
     have h1:=HKK.out.low HK3.out;have h4:=HKK.out.lists HK3.out;refine⟨k+1,by simp,by have:=HLT.out;omega,?_,HBK.out.trans (((drawn_below wr).mono (by have:=HNW.out;have:=HSK.out;omega)).trans h1),HTK.out.trans (fun i cs fr h=>h4 i cs fr h),Nat.le_trans HSK.out h1.size⟩;rw[HTAKE.out];exact HJ3
    case measure=>have:=HLT.out;simp[intOf];omega
   ·have HJ3:=iH hJx3
    refine hK.out _ _ ?_;clear hK K hR hy hJx3;(try simp only[pq]);refine wpAnyW_last (i:=10) (o:=⟨some 22,_,_,_,_,_⟩) (by kernel_rfl) (by decide) rfl (fun K hK=> ?_);rw[if_pos (by rfl)];go_simp;refine hK.out _ _ ?_;clear hK K;(try simp only[pq]);refine wpAnyW_done (by kernel_rfl) ?_ _;gi_wp2
    refine bodyPost_ret (results_none rfl _ _ _) rfl ?_;refine⟨⟨_,rfl⟩,.inr ⟨_,?_,HJ3.out⟩⟩;rw[<-HTAKE.out];exact List.take_prefix _ _
  ·obtain rfl:k=N:=by omega
   have e:L.take k=L:=List.take_of_length_le (by have:=HQ.out.2.2;omega);rw[e]at HJK;clear e;gi_wp2
   go_end0;exact⟨⟨_,rfl⟩,.inl ⟨_,rfl,HJK.out⟩⟩
end Go.Proofs.YtengibnpebfblaaGreatDoor
namespace Go.Proofs.YtengibnpebfblaaGreatDoor
open Go.RowKit
def insL (l:List Cel) (i:Nat) (x:Cel):List Cel:=l.take i++x::l.drop i
theorem insL_len {l:List Cel} {i:Nat} {x:Cel}:(insL l i x).length=l.length+1:=by
 unfold insL;rw[List.length_append,List.length_cons,List.length_take,List.length_drop];omega
theorem insL_mid {A B C:List Cel} {r:Nat} {x:Cel} (hr:r<=B.length):insL (A++B++C) (A.length+r) x=A++insL B r x++C:=by
 unfold insL;rw[List.append_assoc A B C,List.take_append,List.take_of_length_le (by omega),List.drop_append,List.drop_of_length_le (by omega),Nat.add_sub_cancel_left,List.take_append_of_le_length hr,List.drop_append_of_le_length hr];simp
def LeafIns (hv:Nat):Prop:=∀(S:Nat->Prop) (W:World) (b:Value) (l:List Cel) (i:Nat) (x:Cel),HeadAt S W 35 4 b (ivV l) l.length->l.length<=16->i<=l.length->
  Calls Tryz.prog 84 #[.agg #[.int .i64 (l.length:Int),.int .i64 (hv:Int),.slice none 0 0,b],.int .i64 (i:Int),.agg (celC x)] W fun e W'=>∃v,e=.returned v/\∃ks,NodesR (fun g=>W.heap.size<=g) W' 0 v ks/\catK ks=insL l i x/\Fit (l.length+1) ks/\Below W.heap.size W W'
def InsDoes (h:Nat):Prop:=∀(S:Nat->Prop) (W:World) (p:Kid) (i:Nat) (x:Cel) (m:Nat),NodeR S W h p->i<=p.l.length->p.l.length<=50000->m<=8->m<=p.k->
  Calls Tryz.prog 84 #[.agg (kidc h p).toArray,.int .i64 (i:Int),.agg (celC x)] W fun e W'=>∃v,e=.returned v/\∃ks,NodesR (fun g=>S g\/W.heap.size<=g) W' h v ks/\catK ks=insL p.l i x/\(1<=ks.length/\ks.length<=2)/\
   (∀y∈ks,m<=y.k/\(2<=ks.length->8<=y.k))/\Below W.heap.size W W'
theorem ins_leaf (hv:Nat):LeafIns hv:=by
 intro S W b l i x hb hl hi;obtain⟨q,c,rfl,_⟩:=hb.shape;obtain⟨w2,hw2⟩:∃w2,(W.alloc (.cells #[.int .i64 (l.length:Int),.int .i64 (hv:Int),.slice none 0 0,.slice q l.length c] 86)).alloc (.cells (celC x) 35)=w2:=⟨_,rfl⟩
 obtain⟨hb2,hx2,hv2,hs2⟩:=two_new hw2;have HB2:=iH hb2;have ca2:w2.cell? ⟨W.heap.size,2,none⟩=some (.slice none 0 0):=cell_in hx2 rfl;have HK2:Hid (w2.drew.cell? ⟨W.heap.size,3,none⟩=some (.slice q l.length c)/\w2.drew.heap[W.heap.size+1]? =some (.cells (celC x) 35 (0,0))):=⟨cell_in (W:=w2) hx2 rfl,hv2⟩
 have hcut:=hb.cut.weak (S':=fun _=>True) (fun _ _=>trivial);obtain⟨a1,c1,hc1,hr1⟩:=cut_h 52 tv_sl tv_size hcut (hi:=i) hi;obtain⟨a2,c2,hc2,hr2⟩:=cut_l 52 tv_sl tv_size hcut (lo:=i) hi;rw[en_take enV_len]at hc1;rw[en_drop enV_len]at hc2;have HC1:Hid (CutAt (fun _=>True) W 4 (.slice a1 i c1) (ivV (l.take i)) (l.take i).length):=by
  show CutAt _ _ _ _ _ _;rwa[show(l.take i).length=i by rw[List.length_take];omega]
 have HC2:Hid (CutAt (fun _=>True) W 4 (.slice a2 (l.length-i) c2) (ivV (l.drop i)) (l.drop i).length):=by
  show CutAt _ _ _ _ _ _;rwa[show(l.drop i).length=l.length-i by rw[List.length_drop]]
 have HL:=iH hl;have hnil:=nodes_none;clear hb hl hi hb2 hx2 hv2 hs2 hcut hc1 hc2;go_enter Tryz.func84,Tryz.ntmps84;go_upto_region 1 with fail
 clear hw2;go_upto_region 2 with fail
 refine wp_region_T (S:=fun V=>V.cell? ⟨W.heap.size,3,none⟩=some (.slice q l.length c)/\V.heap[W.heap.size+1]? =some (.cells (celC x) 35 (0,0))) [12] (by kernel_rfl) (by first|exact HK2.out|exact HK3.out|exact HK4.out|exact HK5.out) (fun hHeld=> ?_);refine tkA 0 11 (h:=?_);refine tkA 1 12 (h:=?_);(try simp only[pq]);refine tkA 2 13 (h:=?_);refine tkA 3 14 (h:=?_);(try simp only[pq]);refine tyA 4 15 (hy:=yieldsIf_load_row (by rfl) 35 _ rfl (W.heap.size+1) rfl (celC x) 35 (0,0) _ (fun w hw=>hw.2) Tryz.underlying35 rfl val_size) (h:=?_);refine tkA 6 17 (h:=?_);(try simp only[pq]);refine tkA 7 18 (h:=?_);refine tkA 8 19 (h:=?_);(try simp only[pq]);refine tkA 9 20 (h:=?_);(try simp only[pq]);refine tkO 5 (some 16) (h:=fun K hK=> ?_);refine bs_wp 52 35 _ rfl (celC x) 4 (.agg (celC zeroV)) rfl rfl (by decide) (by decide) Tryz.underlying52 (by kernel_rfl) ?_;intro w3 h3 hb3 hs3;have HK3:=iH (show _/\_ from⟨((hb3).cell (p:=⟨W.heap.size,3,none⟩) (World.block_lt_of_cell? _ _ HK2.out.1)).trans HK2.out.1,kW hb3 HK2.out.2⟩);have HO3:Hid (CutAt (fun _=>True) w3 4 (.slice (some ⟨w2.drew.heap.size,0,none⟩) 1 1) (ivV [x]) 1):=⟨_,1,rfl,Nat.le_refl _,rfl,.inr ⟨_,0,rfl,trivial,by omega,fun j u hu=>by rw[Nat.zero_add];exact cell_in h3 (by rw[<-Array.getElem?_toList];exact hu)⟩⟩
 have HB3:Hid (Below W.heap.size W w3):=HB2.out.trans ((drawn_below w2|>.trans hb3).mono HB2.out.size);clear hb3 h3 hs3;(try dsimp only);refine hK.out _ _ (by first|exact HK2.out|exact HK3.out|exact HK4.out|exact HK5.out) (fun hHeld=> ?_);clear hK K;(try simp only[pq]);refine tkO 10 (some 21) (h:=fun K hK=> ?_);go_simp;have hb4:=Below.newly' w3 (.cells #[.slice a1 i c1,.slice (some ⟨w2.drew.heap.size,0,none⟩) 1 1,.slice a2 (l.length-i) c2] 52);have HK4:=iH (show _/\_ from⟨((hb4).cell (p:=⟨W.heap.size,3,none⟩) (World.block_lt_of_cell? _ _ HK3.out.1)).trans HK3.out.1,kW hb4 HK3.out.2⟩);clear hb4;(try dsimp only);refine hK.out _ _ (by first|exact HK2.out|exact HK3.out|exact HK4.out|exact HK5.out) (fun hHeld=> ?_);clear hK K;(try simp only[pq]);refine tkO 11 (some 22) (h:=fun K hK=> ?_);go_simp;go_at_call 110;refine(leaves_new (S:=fun _=>True) w3 [(.slice a1 i c1,l.take i),(.slice (some ⟨w2.drew.heap.size,0,none⟩) 1 1,[x]),(.slice a2 (l.length-i) c2,l.drop i)] ?_ (insL l i x) (by simp[catE,insL]) (by rw[insL_len];have:=HL.out;omega) (by simp)).mono ?_
 ·intro y hy
  simp only[List.mem_cons,List.not_mem_nil,or_false]at hy;rcases hy with rfl|rfl|rfl
  ·exact HC1.out.later HB3.out
  ·exact HO3.out
  ·exact HC2.out.later HB3.out
 rintro e w5 ⟨v5,rfl,kn,hn5,hc5,hf5,hb5⟩;have HK5:=iH (show _/\_ from⟨((hb5).cell (p:=⟨W.heap.size,3,none⟩) (World.block_lt_of_cell? _ _ HK3.out.1)).trans HK3.out.1,kW hb5 HK3.out.2⟩);have HN5:=iH hn5;have HC5:=iH hc5;have HF5:=iH hf5;have HB5:=iH (tW HB3.out hb5);clear hb5 hn5 hc5 hf5;(try dsimp only);refine hK.out _ _ (by first|exact HK2.out|exact HK3.out|exact HK4.out|exact HK5.out) (fun hHeld=> ?_);clear hK K;(try simp only[pq]);refine tkU 12 (some 6) (h:=fun K hK=> ?_);go_simp;refine hK.out _ _ ?_;clear hK K;(try simp only[pq]);refine wpAnyT_done (by kernel_rfl) ?_ _;go_wp2_with fail
 go_ret;refine⟨_,rfl,kn,HN5.out.weak fun g hg=>Nat.le_trans HB3.out.size hg,HC5.out,?_,HB5.out⟩;have hf:=HF5.out;rwa[insL_len]at hf
theorem ins_inner (h:Nat) (ih:InsDoes h):InsDoes (h+1):=by
 intro S W p i x m hp hi hN hm8 hm;obtain⟨w2,hw2⟩:∃w2,(W.alloc (.cells (kidc (h+1) p).toArray 86)).alloc (.cells (celC x) 35)=w2:=⟨_,rfl⟩
 obtain⟨hb2,hx2,hv2,hs2⟩:=two_new hw2;have HV2:=iH hv2;have HB2:=iH hb2;have HX2:=iH hx2;have HS2:=iH hs2;obtain⟨hpb,hk1,hk16,ks,hh,hkl,hl,hks⟩:=hp;obtain⟨n,hn⟩:∃n,n=p.k:=⟨_,rfl⟩
 rw[<-hn]at hk1 hk16 hh hkl hm;have HWAY:=iH (rp_way w2 h n i p ks (hh.later hb2) hkl hk1 hk16 (by rw[<-hl];omega) (by rw[<-hl];omega));have HHO:=iH hh.cut;obtain⟨g,c,cur,fr,hpa,hcap,hS,hg,hcs⟩:=hh.pos hk1;rw[hpa]at HHO;have ca2:w2.cell? ⟨W.heap.size,2,none⟩=some (.slice (some ⟨g,0,none⟩) n c):=by rw[<-hpa];exact cell_in hx2 rfl
 have HRG:Hid (∀k (hk:k<ks.length),w2.rangeAt g (k*4) (kidc h ks[k])):=fun k hk=>range_later (en_range (h:=h) hg hcs hk) hb2
 have HP:=iH (And.intro hk1 (And.intro hk16 (And.intro hkl (And.intro hl (And.intro hi (And.intro hm8 hm))))));have HKS:=iH hks;have HLN:=iH hN;have hnil:=fun w=>nodes_some ⟨g,0,none⟩ n c w
 have hn16:(n:Int)<=16:=by omega
 clear hb2 hx2 hv2 hs2 hpb hk1 hk16 hh hkl hl hks hn hpa hcap hS hg hcs hi hN hm8 hm;go_enter Tryz.func84,Tryz.ntmps84;go_upto_region 1 with fail
 clear hw2;go_upto_region 4 with(first
  |(refine ld_if rfl 86 _ rfl W.heap.size rfl 86 _ _ _ HX2.out Tryz.underlying86 rfl rnode_size ?_)
  |(go_at_call 111;refine HWAY.out.mono ?_;rintro e w3 ⟨k,r,rfl,hwy,hb3⟩;have HWYY:=iH hwy;have HBB3:=iH hb3;clear hwy hb3))
 obtain⟨hkk,hir,hr1,hr2⟩:=HWYY.out;have hpp:=HP.out;have hb3:Below w2.heap.size w2 w3.drew:=HBB3.out.trans ((drawn_below w3).mono HBB3.out.size);have HK3:Hid (w3.drew.cell? ⟨W.heap.size,2,none⟩=some (.slice (some ⟨g,0,none⟩) n c)/\w3.drew.rangeAt g (k*4) (kidc h ks[k])/\w3.drew.heap[W.heap.size+1]? =some (.cells (celC x) 35 (0,0))):=
  ⟨(hb3.cell (p:=⟨W.heap.size,2,none⟩) (World.block_lt_of_cell? _ _ ca2)).trans ca2,range_later (HRG.out k hkk) hb3,(hb3.block _ (by have:=HS2.out;omega)).trans HV2.out⟩
 have HB3:=iH (tW HB2.out hb3);have HBW3:Hid (W.heap.size<=w3.drew.heap.size):=HB3.out.size;have hyl:ks[k].l.length<=p.l.length:=by
  have h1:=congrArg List.length (cat_split hkk);rw[List.length_append,List.length_append,<-hpp.2.2.2.1]at h1;omega
 have HREC:=iH (ih (fun g=>S g/\g<W.heap.size) w3.drew ks[k] r x 8 ((HKS.out _ (List.getElem_mem hkk)).2.old.later HB3.out) hr1 (by have:=HLN.out;omega) (Nat.le_refl _) (HKS.out _ (List.getElem_mem hkk)).1);obtain⟨k1,hk1⟩:∃k1,k1=k+1:=⟨_,rfl⟩
 have HCAT:Hid (insL p.l i x=catK (ks.take k)++insL ks[k].l r x++catK (ks.drop k1)):=by
  show _=_;rw[hpp.2.2.2.1,hir,cat_split hkk,hk1];exact insL_mid hr1
 obtain⟨a1,c1,hc1,hrun1⟩:=cut_h 84 tn_sl tn_size HHO.out (hi:=k) (by omega);have hkw:IntKind.i64.wrap ((k:Int)+1)=(k1:Int):=by rw[IntKind.wrap_i64];omega
 obtain⟨a2,c2,hc2,hrun2⟩:=cut_l 84 tn_sl tn_size HHO.out (lo:=k1) (by omega);rw[en_take (kidc_len h)]at hc1;rw[en_drop (kidc_len h)]at hc2;have HC1:Hid (CutAt S W 4 (.slice a1 k c1) (en (kidc h) (ks.take k)) (ks.take k).length):=by
  show CutAt _ _ _ _ _ _;rwa[show(ks.take k).length=k by rw[List.length_take];omega]
 have HC2:Hid (CutAt S W 4 (.slice a2 (n-k1) c2) (en (kidc h) (ks.drop k1)) (ks.drop k1).length):=by
  show CutAt _ _ _ _ _ _;rwa[show(ks.drop k1).length=n-k1 by rw[List.length_drop];omega]
 have HXL:Hid (∀k4:List Kid,(ks.take k++(k4++ks.drop k1)).length=n-1+k4.length):=by
  intro k4;rw[List.length_append,List.length_append,List.length_take,List.length_drop];omega
 obtain⟨y,hy⟩:∃y,y=ks[k]:=⟨_,rfl⟩
 rw[<-hy]at HK3 HREC HCAT;have hkn:(k:Int)<(n:Int):=by omega
 have hkn':k<n:=by omega
 clear hkk hir hr1 hr2 hpp hb3 hyl hy ca2 hc1 hc2 hk1;refine wp_region_T (S:=fun V=>V.cell? ⟨W.heap.size,2,none⟩=some (.slice (some ⟨g,0,none⟩) n c)/\V.rangeAt g (k*4) (kidc h y)/\V.heap[W.heap.size+1]? =some (.cells (celC x) 35 (0,0))) [19] (by kernel_rfl) (by first|exact HK3.out|exact HK4.out|exact HK5.out|exact HK6.out) (fun hHeld=> ?_);refine tkA 0 29 (h:=?_);refine tkA 1 30 (h:=?_);(try simp only[pq]);refine tkA 2 31 (h:=?_);refine tkA 3 32 (h:=?_);(try simp only[pq]);refine tkA 4 33 (h:=?_);refine tkA 5 34 (h:=?_);(try simp only[pq]);refine tkA 6 35 (h:=?_);refine tkA 7 36 (h:=?_);(try simp only[pq]);refine tyA 8 37 (hy:=yieldsIf_load_mid (by rfl) 86 _ rfl g (k*4) rfl (kidc h y) _ (fun w hw=>hw.2.1) Tryz.underlying86 rfl rnode_size) (h:=?_);refine tkA 9 38 (h:=?_);(try simp only[pq]);refine tyA 10 39 (hy:=yieldsIf_load_row (by rfl) 35 _ rfl (W.heap.size+1) rfl (celC x) 35 (0,0) _ (fun w hw=>hw.2.2) Tryz.underlying35 rfl val_size) (h:=?_);refine tkA 12 41 (h:=?_);(try simp only[pq]);refine tkA 13 42 (h:=?_);refine tkA 14 43 (h:=?_);(try simp only[pq]);refine tkA 15 44 (h:=?_);refine tkA 16 45 (h:=?_);(try simp only[pq]);refine tkO 11 (some 40) (h:=fun K hK=> ?_);go_simp;go_at_call 84;refine HREC.out.mono ?_;rintro e w4 ⟨v4,rfl,k4,hn4,hc4,hl4,hx4,hb4⟩;obtain⟨a4,n4,rfl,_⟩:=hn4.1.shape;have HK4:=iH (show _/\_/\_ from⟨((hb4).cell (p:=⟨W.heap.size,2,none⟩) (World.block_lt_of_cell? _ _ HK3.out.1)).trans HK3.out.1,range_later HK3.out.2.1 hb4,kW hb4 HK3.out.2.2⟩);have HB4:=iH (tW HB3.out hb4);have HN4:=iH hn4;have HC4:=iH hc4;have HL4:=iH (And.intro hl4 hx4);clear hb4 hn4 hc4 hl4 hx4;(try dsimp only);refine hK.out _ _ (by first|exact HK3.out|exact HK4.out|exact HK5.out|exact HK6.out) (fun hHeld=> ?_);clear hK K;(try simp only[pq]);refine tkO 17 (some 46) (h:=fun K hK=> ?_);go_simp;have hb5:=Below.newly' w4 (.cells #[.slice a1 k c1,.slice a4 k4.length n4,.slice a2 (n-k1) c2] 84)
 have HK5:=iH (show _/\_/\_ from⟨((hb5).cell (p:=⟨W.heap.size,2,none⟩) (World.block_lt_of_cell? _ _ HK4.out.1)).trans HK4.out.1,range_later HK4.out.2.1 hb5,kW hb5 HK4.out.2.2⟩);clear hb5;(try dsimp only);refine hK.out _ _ (by first|exact HK3.out|exact HK4.out|exact HK5.out|exact HK6.out) (fun hHeld=> ?_);clear hK K;(try simp only[pq]);refine tkO 18 (some 47) (h:=fun K hK=> ?_);go_simp;go_at_call 109;refine(inners_new (S:=fun g=>S g\/W.heap.size<=g) w4 h [(.slice a1 k c1,ks.take k),(.slice a4 k4.length n4,k4),(.slice a2 (n-k1) c2,ks.drop k1)] ?_ (ks.take k++(k4++ks.drop k1)) (by simp[catE]) ?_ ?_ (by simp)).mono ?_
 ·intro z hz
  have hbw:=HBW3.out;simp only[List.mem_cons,List.not_mem_nil,or_false]at hz;rcases hz with rfl|rfl|rfl
  ·exact((HC1.out.later HB4.out).weak fun g hg=>.inl hg)
  ·exact HN4.out.1.weak fun g hg=>hg.imp (fun h=>h.1) fun h=>Nat.le_trans hbw h
  ·exact((HC2.out.later HB4.out).weak fun g hg=>.inl hg)
 ·intro z hz
  have hbw:=HBW3.out;rcases List.mem_append.1 hz with hz|hz
  ·exact⟨(HKS.out z (List.mem_of_mem_take hz)).1,((HKS.out z (List.mem_of_mem_take hz)).2.later HB4.out).weak fun g hg=>.inl hg⟩
  ·rcases List.mem_append.1 hz with hz|hz
   ·exact⟨(HL4.out.2 z hz).1,(HN4.out.2 z hz).weak fun g hg=>hg.imp (fun h=>h.1) fun h=>Nat.le_trans hbw h⟩
   ·exact⟨(HKS.out z (List.mem_of_mem_drop hz)).1,((HKS.out z (List.mem_of_mem_drop hz)).2.later HB4.out).weak fun g hg=>.inl hg⟩
 ·rw[catK_app,catK_app,HC4.out,<-List.append_assoc,<-HCAT.out,insL_len]
  have:=HLN.out;omega
 rintro e w6 ⟨v6,rfl,kn,hn6,hc6,hf6,hb6⟩;have HK6:=iH (show _/\_/\_ from⟨((hb6).cell (p:=⟨W.heap.size,2,none⟩) (World.block_lt_of_cell? _ _ HK4.out.1)).trans HK4.out.1,range_later HK4.out.2.1 hb6,kW hb6 HK4.out.2.2⟩);have HN6:=iH hn6;have HC6:=iH hc6;have HF6:=iH hf6;have HB6:=iH (tW HB4.out hb6);clear hb6 hn6 hc6 hf6;(try dsimp only);refine hK.out _ _ (by first|exact HK3.out|exact HK4.out|exact HK5.out|exact HK6.out) (fun hHeld=> ?_);clear hK K;(try simp only[pq]);refine tkU 19 (some 6) (h:=fun K hK=> ?_);go_simp;refine hK.out _ _ ?_;clear hK K;(try simp only[pq]);refine wpAnyT_done (by kernel_rfl) ?_ _;go_wp2_with fail
 go_ret;obtain⟨k1,k2,k3,k4',k5,k6,k7⟩:=HP.out;have hl4:=HL4.out.1;have hf:=HF6.out;rw[HXL.out k4]at hf;have he:=fit_ends hf (by omega) (by omega) k6 (by omega);refine⟨_,rfl,kn,HN6.out.weak fun g hg=>hg.elim id fun h=>.inr (Nat.le_trans HB4.out.size h),?_,he.1,he.2,HB6.out⟩;rw[HC6.out,catK_app,catK_app,HC4.out,HCAT.out,List.append_assoc]
theorem ins_zero:InsDoes 0:=by
 intro S W p i x m hp hi hN hm8 hm;obtain⟨hpa,hpk,hp1,hp16,hph⟩:=hp;rw[hpk]at hph;have h:=ins_leaf 1 S W p.b p.l i x hph (by omega) hi;have e:((kidc 0 p).toArray:Array Value)=#[.int .i64 (p.l.length:Int),.int .i64 ((1:Nat):Int),.slice none 0 0,p.b]:=by simp[kidc,hpa]
 rw[e];refine h.mono ?_;rintro e W' ⟨v,rfl,ks,h1,h2,h3,h4⟩;have he:=fit_ends h3 (by omega) (by omega) hm8 (by omega);exact⟨v,rfl,ks,h1.weak fun g hg=>.inr hg,h2,he.1,he.2,h4⟩
theorem rp_insert:∀h,InsDoes h
 |0=>ins_zero
 |h+1=>ins_inner h (rp_insert h)
def insF (acc:List Ent) (Z:List Ent):List Ent:=Z.foldl (fun L e=>insE L e.1 e.2) acc
theorem insF_cons (acc:List Ent) (e:Ent) (Z:List Ent):insF acc (e::Z)=insF (insE acc e.1 e.2) Z:=rfl
theorem insF_snoc (acc:List Ent) (Z:List Ent) (e:Ent):insF acc (Z++[e])=insE (insF acc Z) e.1 e.2:=by
 unfold insF;rw[List.foldl_append];rfl
theorem insF_rise:∀(Z acc:List Ent),Rise acc->Rise (insF acc Z)
 |[],_,h=>h
 |e::Z,_,h=>by
  rw[insF_cons];exact insF_rise Z _ (h.ins _ _)
theorem get_some_mem {L:List Ent} {k:ByteArray}:(getE L k).isSome=true↔∃e∈L,e.1=k:=by
 cases h:getE L k with
 |none=>
  rw[get_none]at h;simp only[Option.isSome_none,Bool.false_eq_true,false_iff];rintro⟨e,he,rfl⟩;exact h e he rfl
 |some x=>
  simp only[Option.isSome_some,true_iff];refine Decidable.byContradiction fun hn=> ?_
  have:getE L k=none:=get_none.2 fun e he he'=>hn ⟨e,he,he'⟩
  rw[h]at this;cases this
theorem get_ins_some {L:List Ent} {j k:ByteArray} {x:Cel}:(getE (insE L k x) j).isSome=true↔j=k\/(getE L j).isSome=true:=by
 rw[get_some_mem,get_some_mem];constructor
 ·rintro⟨e,he,rfl⟩
  rcases mem_ins.1 he with rfl|⟨h,_⟩
  ·exact .inl rfl
  ·exact .inr ⟨e,h,rfl⟩
 ·rintro(rfl|⟨e,he,rfl⟩)
  ·exact⟨(j,x),mem_ins.2 (.inl rfl),rfl⟩
  ·by_cases hk:e.1=k
   ·exact⟨(k,x),mem_ins.2 (.inl rfl),hk.symm⟩
   ·exact⟨e,mem_ins.2 (.inr ⟨he,hk⟩),rfl⟩
theorem insF_len:∀(Z acc:List Ent),Rise acc->(insF acc Z).length<=acc.length+Z.length/\((insF acc Z).length=acc.length+Z.length↔(Z.map (·.1)).Nodup/\∀e∈Z,(getE acc e.1).isSome=false)
 |[],acc,_=>by simp[insF]
 |e::Z,acc,h=>by
  obtain⟨h1,h2⟩:=insF_len Z _ (h.ins e.1 e.2);have h3:=len_ins h e.1 e.2;rw[insF_cons,List.length_cons,List.map_cons,List.nodup_cons];by_cases hs:(getE acc e.1).isSome=true
  ·rw[if_pos hs]at h3
   refine⟨by omega,⟨fun h4=>by omega,fun h4=> ?_⟩⟩;have:=h4.2 e (List.mem_cons_self ..);rw[hs]at this;cases this
  ·rw[if_neg hs]at h3
   refine⟨by omega,?_⟩;have e1:(insF (insE acc e.1 e.2) Z).length=acc.length+(Z.length+1)↔(insF (insE acc e.1 e.2) Z).length=(insE acc e.1 e.2).length+Z.length:=by rw[h3];omega
   rw[e1,h2];constructor
   ·rintro⟨a1,a2⟩
    refine⟨⟨fun hm=> ?_,a1⟩,fun x hx=> ?_⟩
    ·obtain⟨x,hx,hxe⟩:=List.mem_map.1 hm
     have:=a2 x hx;rw[Bool.eq_false_iff]at this;exact this (get_ins_some.2 (.inl hxe))
    ·rcases List.mem_cons.1 hx with rfl|hx
     ·simpa using hs
     ·have:=a2 x hx
      rw[Bool.eq_false_iff]at this ⊢;exact fun h'=>this (get_ins_some.2 (.inr h'))
   ·rintro⟨⟨a1,a2⟩,a3⟩
    refine⟨a2,fun x hx=> ?_⟩;rw[Bool.eq_false_iff];intro h';rcases get_ins_some.1 h' with h'|h'
    ·exact a1 (List.mem_map.2 ⟨x,hx,h'⟩)
    ·have:=a3 x (List.mem_cons_of_mem _ hx)
     rw[h']at this;cases this
theorem insF_mem:∀(Z acc:List Ent),(Z.map (·.1)).Nodup->(∀e∈Z,∀d∈acc,d.1≠e.1)->∀e,e∈insF acc Z↔e∈acc\/e∈Z
 |[],acc,_,_,e=>by simp[insF]
 |d::Z,acc,hn,ha,e=>by
  rw[List.map_cons,List.nodup_cons]at hn;rw[insF_cons,insF_mem Z _ hn.2 (fun x hx y hy=> ?_),mem_ins,List.mem_cons]
  ·constructor
   ·rintro((h|h)|h)
    ·exact .inr (.inl h)
    ·exact .inl h.1
    ·exact .inr (.inr h)
   ·rintro(h|h|h)
    ·exact .inl (.inr ⟨h,ha d (List.mem_cons_self ..) e h⟩)
    ·exact .inl (.inl h)
    ·exact .inr h
  ·rcases mem_ins.1 hy with rfl|⟨hy,_⟩
   ·intro h
    exact hn.1 (List.mem_map.2 ⟨x,hx,h.symm⟩)
   ·exact ha x (List.mem_cons_of_mem _ hx) y hy
def insM (Z:List Ent):List Ent:=insF [] Z
abbrev kbE (e:Ent):List UInt8:=kb e.1
theorem insM_rise (Z:List Ent):Rise (insM Z):=insF_rise Z [] Rise.nil
theorem insM_len (Z:List Ent):(insM Z).length<=Z.length/\((insM Z).length=Z.length↔(Z.map (·.1)).Nodup):=by
 obtain⟨h1,h2⟩:=insF_len Z [] Rise.nil;simp only[List.length_nil,Nat.zero_add]at h1 h2;refine⟨h1,h2.trans ⟨fun h=>h.1,fun h=>⟨h,fun e _=> ?_⟩⟩⟩;simp[getE]
theorem insM_srt {Z:List Ent} (h:(Z.map (·.1)).Nodup):insM Z=srtB kbE Z:=by
 have hk:(Z.map kbE).Nodup:=by
  have:=nodup_kb.2 h;rwa[List.map_map]at this
 have h1:RiseB kbE (srtB kbE Z):=srt_rise hk;refine rise_mem (insM_rise Z) h1 fun e=> ?_
 rw[(srt_perm (f:=kbE) Z).mem_iff];exact(insF_mem Z [] h (fun _ _ _ hd=>(by cases hd)) e).trans (by simp)
theorem tw_map {β γ:Type} (p:γ->Bool) (g:β->γ):∀l:List β,(l.map g).takeWhile p=(l.takeWhile (p∘g)).map g/\(l.map g).dropWhile p=(l.dropWhile (p∘g)).map g
 |[]=>⟨rfl,rfl⟩
 |a::l=>by
  obtain⟨h1,h2⟩:=tw_map p g l;rw[List.map_cons,List.takeWhile_cons,List.dropWhile_cons,List.takeWhile_cons,List.dropWhile_cons];by_cases h:p (g a)=true
  ·rw[if_pos h,if_pos h,if_pos (show(p∘g) a=true from h),if_pos (show(p∘g) a=true from h),h1,h2]
   exact⟨rfl,rfl⟩
  ·rw[if_neg h,if_neg h,if_neg (show¬(p∘g) a=true from h),if_neg (show¬(p∘g) a=true from h)]
   exact⟨rfl,rfl⟩
theorem putB_map {β γ:Type} (g:β->γ) (f:γ->List UInt8) (l:List β) (x:β):putB f (l.map g) (g x)=(putB (fun y=>f (g y)) l x).map g:=by
 unfold putB;obtain⟨h1,h2⟩:=tw_map (fun y=>decide (f y<f (g x))) g l;rw[h1,h2,List.map_append,List.map_cons];rfl
theorem srt_map {β γ:Type} (g:β->γ) (f:γ->List UInt8) (l:List β):srtB f (l.map g)=(srtB (fun y=>f (g y)) l).map g:=by
 unfold srtB;have:∀(l acc:List β),(l.map g).foldl (putB f) (acc.map g)=(l.foldl (putB fun y=>f (g y)) acc).map g:=by
  intro l;induction l with
  |nil=>intro acc;rfl
  |cons a l ih=>
   intro acc;rw[List.map_cons,List.foldl_cons,List.foldl_cons,putB_map,ih]
 exact this l []
def sortM (ks:List ByteArray) (xs:List Tr) (l:List Cel):List (ByteArray×Tr×Cel):=srtB (fun p=>kb p.1) (ks.zip (xs.zip l))
theorem sortM_tree (ks:List ByteArray) (xs:List Tr) (l:List Cel) (hl:l.length=xs.length):srtB kbF (ks.zip xs)=(sortM ks xs l).map fun p=>(p.1,p.2.1):=by
 have e:ks.zip xs=(ks.zip (xs.zip l)).map fun p=>(p.1,p.2.1):=by
  have h:=zip_fst xs l (by omega)
  conv=>lhs;rw[<-h]
  rw[List.zip_map_right];apply List.map_congr_left;intro p _;rfl
 rw[e,srt_map];rfl
theorem sortM_cel (ks:List ByteArray) (xs:List Tr) (l:List Cel) (hl:l.length=xs.length) (hk:ks.length=xs.length) (hn:ks.Nodup):insM (ks.zip l)=(sortM ks xs l).map fun p=>(p.1,p.2.2):=by
 have e:ks.zip l=(ks.zip (xs.zip l)).map fun p=>(p.1,p.2.2):=by
  have h:=zip_snd xs l (by omega)
  conv=>lhs;rw[<-h]
  rw[List.zip_map_right];apply List.map_congr_left;intro p _;rfl
 rw[insM_srt (by rw[zip_fst ks l (by omega)];exact hn),e,srt_map];rfl
theorem sortM_mem {ks:List ByteArray} {xs:List Tr} {l:List Cel} {p:ByteArray×Tr×Cel} (h:p∈sortM ks xs l):p.2∈xs.zip l:=
 (List.of_mem_zip ((srt_perm (f:=fun p:ByteArray×Tr×Cel=>kb p.1) _).mem_iff.1 h)).2
def sortS (xs:List Tr) (l:List Cel):List (Tr×Cel):=srtB (fun p=>keyT p.1) (xs.zip l)
theorem sortS_tree (xs:List Tr) (l:List Cel) (hl:l.length=xs.length):srtB keyT xs=(sortS xs l).map (·.1):=by
 have h:=zip_fst xs l (by omega)
 conv=>lhs;rw[<-h]
 rw[srt_map];rfl
theorem nodup_kB {xs:List Tr}:(xs.map kB).Nodup↔(xs.map keyT).Nodup:=by
 rw[<-nodup_kb,List.map_map];have:(kb∘kB)=keyT:=funext fun a=>kb_kB a
 rw[this]
theorem sortS_cel (xs:List Tr) (l:List Cel) (hl:l.length=xs.length) (hn:(xs.map keyT).Nodup):insM ((xs.map kB).zip l)=(sortS xs l).map fun p=>(kB p.1,p.2):=by
 have e:(xs.map kB).zip l=(xs.zip l).map fun p=>(kB p.1,p.2):=by
  rw[List.zip_map_left];apply List.map_congr_left;intro p _;rfl
 rw[insM_srt (by rw[zip_fst _ l (by simpa using hl.symm)];exact nodup_kB.2 hn),e,srt_map];unfold sortS;congr 2
theorem sortS_mem {xs:List Tr} {l:List Cel} {p:Tr×Cel} (h:p∈sortS xs l):p∈xs.zip l:=(srt_perm (f:=fun p:Tr×Cel=>keyT p.1) _).mem_iff.1 h
theorem compact_rise {l:List (List UInt8)} (h:l.Pairwise fun a b=>a<=b):(Lib.compact l).length<l.length↔¬l.Nodup:=by
 have hle:=Lib.compact_length_le l;have key:(Lib.compact l).length=l.length↔∀j,j<l.length->Lib.keeps l.toArray j=true:=by
  unfold Lib.compact Lib.compactUpTo;rw[List.length_map];have h1:=List.length_filter_eq_length_iff (p:=Lib.keeps l.toArray) (l:=List.range l.length);rw[List.length_range]at h1;rw[h1];simp
 have key2:(∀j,j<l.length->Lib.keeps l.toArray j=true)↔l.Nodup:=by
  constructor
  ·intro hk
   unfold List.Nodup;rw[List.pairwise_iff_getElem]at h ⊢;intro i j hi hj hij;have hstep:∀(d:Nat) (hd:i+1+d<l.length),l[i]≠l[i+1+d]:=by
    intro d;have hk2:=hk (i+1+d);unfold Lib.keeps at hk2;intro hd he;have h3:=hk2 hd;simp only[decide_eq_true_eq]at h3;rcases h3 with h3|h3
    ·omega
    ·rw[show i+1+d-1=i+d by omega]at h3
     rw[getElem!_pos _ _ (by simpa using hd),getElem!_pos _ _ (by simp;omega)]at h3;simp only[List.getElem_toArray]at h3;have h4:=h (i+d) (i+1+d) (by omega) hd (by omega);rcases Nat.eq_zero_or_pos d with rfl|hd0
     ·exact h3 he.symm
     ·have h5:=h i (i+d) hi (by omega) (by omega)
      rw[<-he]at h4 h3;exact h3 (List.le_antisymm h5 h4)
   have:=hstep (j-i-1) (by omega);simp only[show i+1+(j-i-1)=j by omega]at this;exact this
  ·intro hn j hj
   unfold Lib.keeps;simp only[decide_eq_true_eq];rcases Nat.eq_zero_or_pos j with h0|h0
   ·exact .inl h0
   ·refine .inr ?_
    rw[getElem!_pos _ _ (by simpa using hj),getElem!_pos _ _ (by simp;omega)];simp only[List.getElem_toArray];unfold List.Nodup at hn;rw[List.pairwise_iff_getElem]at hn;exact(hn (j-1) j (by omega) hj (by omega)).symm
 constructor
 ·intro hlt hn
  have:=key.2 (key2.2 hn);omega
 ·intro hn
  rcases Nat.lt_or_ge (Lib.compact l).length l.length with h1|h1
  ·exact h1
  ·exact absurd (key2.1 (key.1 (by omega))) hn
theorem compact_sorted (l:List (List UInt8)):(Lib.compact (l.mergeSort fun x y=>decide (x<=y))).length<l.length↔¬l.Nodup:=by
 have h:=List.pairwise_mergeSort (le:=fun x y:List UInt8=>decide (x<=y)) (fun a b c h1 h2=>by simp only[decide_eq_true_eq]at h1 h2 ⊢;exact List.le_trans h1 h2) (fun a b=>by simp only[Bool.or_eq_true,decide_eq_true_eq];exact List.le_total a b) l;have hp:=List.mergeSort_perm l fun x y=>decide (x<=y)
 have h2:=compact_rise (h.imp fun h=>by simpa using h);rw[hp.length_eq,hp.nodup_iff]at h2;exact h2
end Go.Proofs.YtengibnpebfblaaGreatDoor
