import Derived.Test.YtengibnpebfblaaGreatDoorB48
import Derived.Test.YtengibnpebfblaaGreatDoorB50
import Derived.Test.YtengibnpebfblaaGreatDoorB60
import Derived.Test.YtengibnpebfblaaGreatDoorB43
set_option maxRecDepth 1000000
set_option maxHeartbeats 8000000
set_option linter.unusedSimpArgs false
namespace Go.Proofs.YtengibnpebfblaaGreatDoor
open Go.RowKit Go.ChangeShapes Go.WideShapes Go.ChangeAt
def Src (W:World) (v:Value) (ds:List (Array Value)):Prop:=(v=.slice none 0 0/\ds=[])\/∃(ad:Addr) (c:Nat),v=.slice (some ad) ds.length c/\∀j u,(ds.flatMap Array.toList)[j]? =some u->W.cell? (ad.add j)=some u
theorem Src.later {W W':World} {v:Value} {ds:List (Array Value)} (h:Src W v ds) (hb:Below W.heap.size W W'):Src W' v ds:=by
 rcases h with h|⟨ad,c,e,h⟩
 ·exact .inl h
 ·exact .inr ⟨ad,c,e,fun j u hu=>(hb.cell (World.block_lt_of_cell? W _ (h j u hu))).trans (h j u hu)⟩
theorem src_wp {o:Oper} {a:Act} {K:Act->World->Prop} {Q:Exit->Act->World->Prop} {w:World} (p q:Operand)
  (ho:o.op=.call {callee:=.builtin .append,args:=#[p,q],argTypes:=#[26,26]}) {B:Nat} {v vr:Value} {cs ds:List (Array Value)} (hs:a.eval p=v) (hb:RowsW B 28 5 v cs w) (hx:a.eval q=vr) (hc:Src w vr ds)
  (h5:∀c∈ds,c.size=5) (h1:∀c∈ds,c.all (·.oneCell')=true) (hlen:cs.length+ds.length<=100000)
  (h:∀v' w',RowsW B 28 5 v' (cs++ds) w'->w.grownBy w' v.ownBlock->K (a.put o.dst v') w'):o.wp Tryz.prog a w K Q:=by
 obtain⟨i,hi0,hz,h2,h3⟩:=info_parts trl_info3;have hu:=Tryz.underlying26;rcases hc with⟨rfl,rfl⟩|⟨ad,c,rfl,hc⟩
 ·have hr:=run_append_owned_none w B 26 o.type 28 i 5 hu hi0 v cs.length _ hb.1
  unfold Oper.wp execOp;simp only[ho,resolve,invoke,builtin,Sem.run_bind,Sem.run_pure,Result.andThen_ok,List.map_toArray,List.map_cons,List.map_nil,hs,hx,hr];exact h v w (by rw[List.append_nil];exact hb) ⟨rfl,rfl,rfl,Nat.le_refl _,fun _ _ _=>rfl⟩
 ·obtain⟨v',w',hr,g1,g2,_⟩:=run_append_own (P:=Tryz.prog) w B 26 o.type 28 i (.agg (trC 0 0 ⟨#[]⟩ (.slice none 0 0) (.slice none 0 0))) 5 80 hu hi0 hz h2 h3 rfl (by decide) v cs.length (cs.flatMap Array.toList) hb.1 ad ds.length c (ds.flatMap Array.toList) (flat_len' 5 ds h5) hc (oneC h1) (by unfold maxLen;omega) (by omega) hb.2.1
  unfold Oper.wp execOp;simp only[ho,resolve,invoke,builtin,Sem.run_bind,Sem.run_pure,Result.andThen_ok,List.map_toArray,List.map_cons,List.map_nil,hs,hx,hr];refine h v' w' ⟨?_,Nat.le_trans hb.2.1 g2.size,fun x hx=> ?_⟩ g2
  ·rw[List.length_append,List.flatMap_append]
   exact g1
  ·rcases List.mem_append.1 hx with hx|hx
   ·exact hb.2.2 x hx
   ·exact h5 x hx
theorem bs_two {o:Oper} {a:Act} {w:World} {K:Act->World->Prop} {Q:Exit->Act->World->Prop} (p q:Operand) (ho:o.op=.buildSlice 26 2 #[(0,p),(1,q)]) {a0 a1 a2 a3 a4 b0 b1 b2 b3 b4:Value}
  (hp:a.eval p=.agg #[a0,a1,a2,a3,a4]) (hq:a.eval q=.agg #[b0,b1,b2,b3,b4])
  (h:K (a.put o.dst (.slice (some ⟨w.heap.size,0,none⟩) 2 2)) (w.alloc (.cells #[a0,a1,a2,a3,a4,b0,b1,b2,b3,b4] 28))):o.wp Tryz.prog a w K Q:=by
 obtain⟨i,hi0,hz,h2,h3⟩:=info_parts trl_info3;refine wp_buildSlice 26 28 2 _ ho _ i _ Tryz.underlying26 hi0 hz (by rw[h2];decide) (by rw[h2];decide) ?_ h;rw[h2];simp only[List.map_toArray,List.map_cons,List.map_nil,hp,hq];kernel_rfl
def TrLsN (W:World) (v:Value) (l:List Tr):Prop:=TrLs W v l/\(v=.slice none 0 0\/∃a n c,v=.slice (some a) n c)
theorem trees_openN {H:Type} {enc:TypeId×Value->H} {W:World} {sp:Nat->Bool} {held:Bool} {r:Reach} {b0 base:Nat} {v:Value} {d:DataW H} {ps:List MemPlace}
  (hval:Value.okWide Tryz.prog W r b0 26 v) (hd:DataW.Trod enc Tryz.prog W base sp held 26 v d ps):∃l,TrLsN W v l:=by
 obtain⟨l,hl⟩:=trees_openP hval hd;refine⟨l,hl,?_⟩;obtain⟨a0,len,cap,rfl⟩:=okWide_slice Tryz.underlying26 hval;obtain⟨fuel,hf⟩:=hd;rcases Go.Deep.open_slice Tryz.underlying26 hf with⟨hcs,_⟩|⟨a,len',cap',m,n,D,Pl,hcs,_⟩
 ·simp[Value.cells]at hcs
  obtain⟨rfl,rfl,rfl⟩:=hcs;exact .inl rfl
 ·simp[Value.cells]at hcs
  obtain⟨rfl,rfl,rfl⟩:=hcs;exact .inr ⟨a,_,_,rfl⟩
theorem TrLsN.rows {W:World} {v:Value} {l:List Tr} (h:TrLsN W v l):∃ds:List (Array Value),Src W v ds/\ds.length=l.length/\(∀c∈ds,c.size=5)/\∀j (h:j<l.length) (h':j<ds.length),TrV W l[j] (.agg ds[j]):=by
 obtain⟨⟨a,c,b,o,rfl,hm,ha,hr⟩,hn⟩:=h;have hx:∀n,n<=l.length->∃ds:List (Array Value),ds.length=n/\∀j (h:j<n) (h':j<ds.length) (h2:j<l.length),ds[j].size=5/\TrV W l[j] (.agg ds[j])/\W.rangeAt b (o+j*5) ds[j].toList:=by
  intro n;induction n with
  |zero=>exact fun _=>⟨[],rfl,fun j h=>absurd h (Nat.not_lt_zero _)⟩
  |succ n ih=>
   intro hn;obtain⟨ys,e,h⟩:=ih (by omega);obtain⟨y,q0,q1,q2⟩:=hr n (by omega);refine⟨ys++[y],by rw[List.length_append,e];rfl,fun j h1 h2 h3=> ?_⟩;rcases get_snocP h2 with⟨h4,e4⟩|⟨h4,e4⟩
   ·rw[e4]
    exact h j (by omega) h4 h3
   ·rw[e4]
    obtain rfl:j=n:=by omega
    exact⟨q0,q1,q2⟩
 obtain⟨ds,e,hd⟩:=hx _ (Nat.le_refl _);have h5:∀c∈ds,c.size=5:=fun c hc=>by
  obtain⟨j,hj,rfl⟩:=List.mem_iff_getElem.1 hc;exact(hd j (by omega) hj (by omega)).1
 refine⟨ds,?_,e,h5,fun j h1 h2=>(hd j h1 h2 h1).2.1⟩;rcases hn with hn|⟨ad,n,c',hn⟩
 ·simp only[Value.slice.injEq]at hn
  obtain⟨rfl,h0,rfl⟩:=hn;exact .inl ⟨by rw[h0],List.eq_nil_of_length_eq_zero (by omega)⟩
 ·simp only[Value.slice.injEq]at hn
  obtain⟨rfl,rfl,rfl⟩:=hn;refine .inr ⟨ad,c,by rw[e],fun j u hu=> ?_⟩;have hj:j<l.length*5:=by rw[<-e,<-flat_len' 5 ds h5];exact(List.getElem?_eq_some_iff.1 hu).1
  have hq:j/5<ds.length:=by omega
  have h1:=flat_get 5 ds (j/5) (j % 5) ds[j/5] h5 (List.getElem?_eq_getElem hq) (by omega);rw[show j/5*5+j % 5=j by omega,hu]at h1;have h2:=(hd (j/5) (by omega) hq (by omega)).2.2 (j % 5) u (by rw[Array.getElem?_toList];exact h1.symm);have ha':=ha (by omega);obtain rfl:ad=⟨b,o,none⟩:=Option.some.inj ha';rw[show o+j/5*5+j % 5=o+j by omega]at h2;rw[show(⟨b,o,none⟩:Addr).add j=⟨b,o+j,none⟩ by unfold Addr.add;split<;>simp_all];exact h2
theorem vec_trv {W:World} {v:Value} {l:List Tr} (h:TrLs W v l):TrV W (vecT l) (.agg (trC 4 0 ⟨#[]⟩ (.slice none 0 0) v)):=by
 obtain⟨a,c,b,o,rfl,hm,ha,hr⟩:=h;rw[TrV];exact⟨_,_,rfl,by decide,by unfold InR;omega,inr0,txV_nil12 W,a,c,b,o,rfl,ha,hm,trL_of fun j hj=>by obtain⟨cs,h1,h2,h3⟩:=hr j hj;exact⟨cs,h1,h3,h2⟩⟩
structure Ap3 (css:List (Array Value)) (cab:Array Value) (last:List (Array Value)) (Wb V:World) (m:List Nat) (val:Nat->Value):Prop where
 bel:Below Wb.heap.size Wb V
 x0:0∈m->2∉m->∃h,val 0=.slice (some ⟨h,0,none⟩) 0 0/\RowsW Wb.heap.size 28 5 (val 0) [] V/\V.heap[h]? =some (.cells #[] 28 (0,0))
 x2:2∈m->6∉m->RowsW Wb.heap.size 28 5 (val 2) css V
 x5:5∈m->6∉m->∃g,val 5=.slice (some ⟨g,0,none⟩) 2 2/\V.heap[g]? =some (.cells cab 28 (0,0))
 x6:6∈m->RowsW Wb.heap.size 28 5 (val 6) (css++last) V
 c2:2∈m->0∈m
 c6:6∈m->2∈m/\5∈m
section
variable {css last : List (Array Value)} {cab : Array Value} {Wb V V' : World} {m : List Nat} {val : Nat → Value}
theorem blk_later {g:Nat} {o:Obj} (h:V.heap[g]? =some o) (hb:Below V.heap.size V V'):V'.heap[g]? =some o:=kW hb h
theorem Ap3.s0 (h:Ap3 css cab last Wb V m val) (h2:2∉m) (h6:6∉m):Ap3 css cab last Wb (V.alloc (.cells #[] 28)) (0::m) (updV val 0 (.slice (some ⟨V.heap.size,0,none⟩) 0 0)):=by
 have hb:=Below.newly' V (.cells #[] 28);exact {
  bel:=tW h.bel hb
  x0:=fun _ _=>⟨_,updV_at ..,by rw[updV_at];exact rowsW_zero h.bel.size (Nat.le_trans h.bel.size hb.size) (heap_alloc_last _ _),heap_alloc_last _ _⟩
  x2:=fun h1 _=>absurd ((List.mem_cons.1 h1).resolve_left (by decide)) h2
  x5:=fun h1 h3=>by
   obtain⟨g,e,hg⟩:=h.x5 ((List.mem_cons.1 h1).resolve_left (by decide)) fun h=>h3 (List.mem_cons_of_mem _ h)
   exact⟨g,(updV_ne val _ (by decide)).trans e,blk_later hg hb⟩
  x6:=fun h1=>absurd ((List.mem_cons.1 h1).resolve_left (by decide)) h6
  c2:=fun _=>List.mem_cons_self
  c6:=fun h1=>absurd ((List.mem_cons.1 h1).resolve_left (by decide)) h6}
theorem Ap3.s5 (h:Ap3 css cab last Wb V m val) (h6:6∉m):Ap3 css cab last Wb (V.alloc (.cells cab 28)) (5::m) (updV val 5 (.slice (some ⟨V.heap.size,0,none⟩) 2 2)):=by
 have hb:=Below.newly' V (.cells cab 28);exact {
  bel:=tW h.bel hb
  x0:=fun h1 h2=>by
   obtain⟨g,e,h3,h4⟩:=h.x0 ((List.mem_cons.1 h1).resolve_left (by decide)) fun h=>h2 (List.mem_cons_of_mem _ h)
   exact⟨g,(updV_ne val _ (by decide)).trans e,by rw[updV_ne val _ (by decide)];exact h3.later hb,blk_later h4 hb⟩
  x2:=fun h1 h2=>by rw[updV_ne val _ (by decide)];exact(h.x2 ((List.mem_cons.1 h1).resolve_left (by decide)) fun h=>h2 (List.mem_cons_of_mem _ h)).later hb
  x5:=fun _ _=>⟨_,updV_at ..,heap_alloc_last _ _⟩
  x6:=fun h1=>absurd ((List.mem_cons.1 h1).resolve_left (by decide)) h6
  c2:=fun h1=>List.mem_cons_of_mem _ (h.c2 ((List.mem_cons.1 h1).resolve_left (by decide)))
  c6:=fun h1=>absurd ((List.mem_cons.1 h1).resolve_left (by decide)) h6}
theorem Ap3.s2 (h:Ap3 css cab last Wb V m val) (hc:cab≠ #[]) (h0:0∈m) (h2:2∉m) (h6:6∉m) {v:Value} (hr:RowsW Wb.heap.size 28 5 v ([]++css) V') (hg:V.grownBy V' (val 0).ownBlock):Ap3 css cab last Wb V' (2::m) (updV val 2 v):=by
 obtain⟨x,e0,hx,hxb⟩:=h.x0 h0 h2;exact {
  bel:=h.bel.trans (hx.below' hg (Nat.le_refl _) h.bel.size)
  x0:=fun _ h3=>absurd List.mem_cons_self h3
  x2:=fun _ _=>by rw[updV_at];exact hr
  x5:=fun h1 h3=>by
   obtain⟨g,e,hgb⟩:=h.x5 ((List.mem_cons.1 h1).resolve_left (by decide)) fun h=>h3 (List.mem_cons_of_mem _ h)
   refine⟨g,(updV_ne val _ (by decide)).trans e,(hg.block g (gZ hgb) fun e'=> ?_).trans hgb⟩;rw[e0]at e';obtain rfl:g=x:=Option.some.inj e';rw[hxb]at hgb;simp only[Option.some.injEq,Obj.cells.injEq]at hgb;exact hc hgb.1.symm
  x6:=fun h1=>absurd ((List.mem_cons.1 h1).resolve_left (by decide)) h6
  c2:=fun _=>List.mem_cons_of_mem _ h0
  c6:=fun h1=>absurd ((List.mem_cons.1 h1).resolve_left (by decide)) h6}
theorem Ap3.s6 (h:Ap3 css cab last Wb V m val) (h2:2∈m) (h5:5∈m) (h6:6∉m) {v:Value} (hr:RowsW Wb.heap.size 28 5 v (css++last) V') (hg:V.grownBy V' (val 2).ownBlock):Ap3 css cab last Wb V' (6::m) (updV val 6 v) where
 bel:=h.bel.trans ((h.x2 h2 h6).below' hg (Nat.le_refl _) h.bel.size)
 x0:=fun _ h3=>absurd (List.mem_cons_of_mem _ h2) h3
 x2:=fun _ h3=>absurd List.mem_cons_self h3
 x5:=fun _ h3=>absurd List.mem_cons_self h3
 x6:=fun _=>by rw[updV_at];exact hr
 c2:=fun _=>List.mem_cons_of_mem _ (h.c2 h2)
 c6:=fun _=>⟨List.mem_cons_of_mem _ h2,List.mem_cons_of_mem _ h5⟩
end
end Go.Proofs.YtengibnpebfblaaGreatDoor
namespace Go.Proofs.YtengibnpebfblaaGreatDoor
open Go.RowKit
theorem orderParts_walk (s1:Nat) (b1:Int) (v:Value) (l:List Tr) (u1:Value) (a:Tr) (u2:Value) (b:Tr) (at_:Int) (hs1:s1<18446744073709551616) (_:(Lit.int .i64 at_).wf=true) (w:World) (hv:TrLsN w v l) (hu1:TrV w a u1) (hu2:TrV w b u2) (hT:Tab6 w):
  Calls Tryz.prog 5 #[.agg #[.int .u64 (s1:Int),.int .i64 b1],v,u1,u2,.int .i64 at_] w fun e w'=>e=.returned (.bool true)/\Below w.heap.size w w':=by
 obtain⟨ak,an,att,aa,al,ac,ad,am,ae,rfl⟩:=tr_shape hu1;obtain⟨bk,bn,btt,ba,bl,bc,bd,bm,be,rfl⟩:=tr_shape hu2;obtain⟨ds,hsr,hdl,hd5,hdt⟩:=hv.rows;obtain⟨sa,sl,sc,hvs⟩:∃sa sl sc,v=.slice sa sl sc/\sl=l.length:=by
  obtain⟨⟨a,c,b,o,rfl,_⟩,_⟩:=hv;exact⟨a,_,c,rfl,rfl⟩
 obtain⟨rfl,hsl⟩:=hvs;have hra:=trV_rng a _ hu1;have hrb:=trV_rng b _ hu2;have hrl:=trls_rngP hv.1;obtain⟨w1,hw1⟩:∃w1,((w.alloc (.cells #[.int .u64 (s1:Int),.int .i64 b1] 24)).alloc (.cells (trC ak an att (.slice aa al ac) (.slice ad am ae)) 28)).alloc (.cells (trC bk bn btt (.slice ba bl bc) (.slice bd bm be)) 28)=w1:=⟨_,rfl⟩
 obtain⟨hb1,hx1,hx2,hx3,hs⟩:=three_newV hw1;have HX1:=iH (fun W (hb:Below w1.heap.size w1 W)=>kW hb hx1);have HX2:=iH (fun W (hb:Below w1.heap.size w1 W)=>kW hb hx2);have HX3:=iH (fun W (hb:Below w1.heap.size w1 W)=>kW hb hx3);have HB1:=iH hb1;have HVL:=iH (fun W (hb:Below w1.heap.size w1 W)=>(hv.1.later hb1).later hb);have HVA:=iH (fun W (hb:Below w1.heap.size w1 W)=>(hu1.later hb1).later hb);have HVB:=iH (fun W (hb:Below w1.heap.size w1 W)=>(hu2.later hb1).later hb);have HSR1:=iH (fun W (hb:Below w1.heap.size w1 W)=>(hsr.later hb1).later hb);have HT1:=iH (fun W (hb:Below w1.heap.size w1 W)=>(hT.below hb1).below hb);have HDT:=iH (fun W (hb:Below w1.heap.size w1 W) j h h'=>((hdt j h h').later hb1).later hb);have HLV:=iH (fun W (hb:Below w1.heap.size w1 W)=>lw_live12 W (HT1.out W hb));obtain⟨rl,hrl1⟩:∃r,r=(l.all okR&&decide (l.length<=12)):=⟨_,rfl⟩
 obtain⟨rt,hrt⟩:∃r,r=(okR a&&okR b):=⟨_,rfl⟩
 have HRL:Hid (∀W,Below w1.heap.size w1 W->Calls Tryz.prog 10 #[.slice sa sl sc] W fun e w'=>e=.returned (.bool rl)/\Below W.heap.size W w'):=fun W hb=>by rw[hrl1];exact lw_right W _ l (HVL.out W hb)
 have HRT:Hid (∀W,Below w1.heap.size w1 W->Calls Tryz.prog 10 #[.slice (some ⟨W.heap.size,0,none⟩) 2 2] (W.alloc (.cells #[.int .i64 ak,.int .i64 an,.string att,.slice aa al ac,.slice ad am ae,.int .i64 bk,.int .i64 bn,.string btt,.slice ba bl bc,.slice bd bm be] 28)) fun e w'=>e=.returned (.bool rt)/\Below W.heap.size W w'):=fun W hb=>by
  have hbn:=Below.newly' W (.cells #[.int .i64 ak,.int .i64 an,.string att,.slice aa al ac,.slice ad am ae,.int .i64 bk,.int .i64 bn,.string btt,.slice ba bl bc,.slice bd bm be] 28);have hl:=heap_alloc_last W (.cells #[.int .i64 ak,.int .i64 an,.string att,.slice aa al ac,.slice ad am ae,.int .i64 bk,.int .i64 bn,.string btt,.slice ba bl bc,.slice bd bm be] 28);have h:=lw_right (W.alloc (.cells #[.int .i64 ak,.int .i64 an,.string att,.slice aa al ac,.slice ad am ae,.int .i64 bk,.int .i64 bn,.string btt,.slice ba bl bc,.slice bd bm be] 28)) _ [a,b] (trL_two rfl rfl ((HVA.out W hb).later hbn) ((HVB.out W hb).later hbn) (fun j u hu=>cell_in hl (by rw[<-Array.getElem?_toList];exact hu)));rw[hrt];refine h.mono fun e w' h=>⟨by rw[h.1];simp,tW hbn h.2⟩
 have HRE:=iH (And.intro hrl1 hrt);have HRN:=iH (And.intro hra (And.intro hrb hrl));have HDS0:=iH (And.intro hd5 (And.intro hdl hdt));have HSL:=iH hsl;have HS1:=iH hs1;have HW:Hid (Below w1.heap.size w1 w1):=Below.refl _ _;clear hx1 hx2 hx3 hb1 hv hu1 hu2 hT hrl1 hrt hs hs1 hra hrb hrl hsr hdl hd5 hdt hsl;cases rl with
 |false=>
  go_enter Tryz.func5,Tryz.ntmps5;go_upto_region 1 with fail
  clear hw1;go_wp2_with (first
   |(go_at_call 9;(with_reducible refine(HLV.out _ HW.out).mono ?_);rintro r V ⟨rfl,hb⟩;replace HW:=iH (tW HW.out hb);clear hb)
   |(go_at_call 10;(with_reducible refine(HRL.out _ HW.out).mono ?_);rintro r V ⟨rfl,hb⟩;replace HW:=iH (tW HW.out hb);clear hb)
   |(refine ld_if (by rfl) 28 _ rfl (w.heap.size+1) rfl 28 _ _ _ (HX2.out _ HW.out) Tryz.underlying28 rfl tr_size12 ?_)
   |(refine ld_if (by rfl) 28 _ rfl (w.heap.size+2) rfl 28 _ _ _ (HX3.out _ HW.out) Tryz.underlying28 rfl tr_size12 ?_)
   |(go_at_call 10;(with_reducible refine(HRT.out _ HW.out).mono ?_);rintro r V ⟨rfl,hb⟩;replace HW:=iH (tW HW.out hb);clear hb))
  have hb:=tW HB1.out HW.out;go_ret;exact⟨rfl,hb⟩
 |true=>
 cases rt with
 |false=>
  go_enter Tryz.func5,Tryz.ntmps5;go_upto_region 1 with fail
  clear hw1;go_wp2_with (first
   |(go_at_call 9;(with_reducible refine(HLV.out _ HW.out).mono ?_);rintro r V ⟨rfl,hb⟩;replace HW:=iH (tW HW.out hb);clear hb)
   |(go_at_call 10;(with_reducible refine(HRL.out _ HW.out).mono ?_);rintro r V ⟨rfl,hb⟩;replace HW:=iH (tW HW.out hb);clear hb)
   |(refine ld_if (by rfl) 28 _ rfl (w.heap.size+1) rfl 28 _ _ _ (HX2.out _ HW.out) Tryz.underlying28 rfl tr_size12 ?_)
   |(refine ld_if (by rfl) 28 _ rfl (w.heap.size+2) rfl 28 _ _ _ (HX3.out _ HW.out) Tryz.underlying28 rfl tr_size12 ?_)
   |(go_at_call 10;(with_reducible refine(HRT.out _ HW.out).mono ?_);rintro r V ⟨rfl,hb⟩;replace HW:=iH (tW HW.out hb);clear hb))
  have hb:=tW HB1.out HW.out;go_ret;exact⟨rfl,hb⟩
 |true=>
 by_cases hneg:at_<0
 ·skip
  go_enter Tryz.func5,Tryz.ntmps5;go_upto_region 1 with fail
  clear hw1;go_wp2_with (first
   |(go_at_call 9;(with_reducible refine(HLV.out _ HW.out).mono ?_);rintro r V ⟨rfl,hb⟩;replace HW:=iH (tW HW.out hb);clear hb)
   |(go_at_call 10;(with_reducible refine(HRL.out _ HW.out).mono ?_);rintro r V ⟨rfl,hb⟩;replace HW:=iH (tW HW.out hb);clear hb)
   |(refine ld_if (by rfl) 28 _ rfl (w.heap.size+1) rfl 28 _ _ _ (HX2.out _ HW.out) Tryz.underlying28 rfl tr_size12 ?_)
   |(refine ld_if (by rfl) 28 _ rfl (w.heap.size+2) rfl 28 _ _ _ (HX3.out _ HW.out) Tryz.underlying28 rfl tr_size12 ?_)
   |(go_at_call 10;(with_reducible refine(HRT.out _ HW.out).mono ?_);rintro r V ⟨rfl,hb⟩;replace HW:=iH (tW HW.out hb);clear hb))
  have hb:=tW HB1.out HW.out;go_ret;exact⟨rfl,hb⟩
 by_cases hbig:(sl:Int)<at_
 ·skip
  go_enter Tryz.func5,Tryz.ntmps5;go_upto_region 1 with fail
  clear hw1;go_wp2_with (first
   |(go_at_call 9;(with_reducible refine(HLV.out _ HW.out).mono ?_);rintro r V ⟨rfl,hb⟩;replace HW:=iH (tW HW.out hb);clear hb)
   |(go_at_call 10;(with_reducible refine(HRL.out _ HW.out).mono ?_);rintro r V ⟨rfl,hb⟩;replace HW:=iH (tW HW.out hb);clear hb)
   |(refine ld_if (by rfl) 28 _ rfl (w.heap.size+1) rfl 28 _ _ _ (HX2.out _ HW.out) Tryz.underlying28 rfl tr_size12 ?_)
   |(refine ld_if (by rfl) 28 _ rfl (w.heap.size+2) rfl 28 _ _ _ (HX3.out _ HW.out) Tryz.underlying28 rfl tr_size12 ?_)
   |(go_at_call 10;(with_reducible refine(HRT.out _ HW.out).mono ?_);rintro r V ⟨rfl,hb⟩;replace HW:=iH (tW HW.out hb);clear hb))
  have hb:=tW HB1.out HW.out;go_ret;exact⟨rfl,hb⟩
 obtain⟨ol,nl⟩:=oks_ofP HRE.out.1.symm;have hab:=Bool.and_eq_true_iff.1 HRE.out.2.symm;obtain⟨at1,rfl,hatl⟩:∃n:Nat,at_=(n:Int)/\n<=l.length:=⟨at_.toNat,by omega,by have:=HSL.out;omega⟩
 have hva:=okR_val hab.1 HRN.out.1;have hvb:=okR_val hab.2 HRN.out.2.1;have hvl:=fun x hx=>okR_val (ol x hx) (HRN.out.2.2 x hx)
 have hal:∀x∈l,OkT x/\FewT 2000 x/\TxtT 3000 x/\ValB (canT x):=fun x hx=>⟨(chkT_ok.1 (hvl x hx).2.2.2.1).1,(hvl x hx).1,(hvl x hx).2.1,(hvl x hx).2.2.2.2.2⟩
 have hmem:∀x∈l++[a,b],FewT 2000 x/\TxtT 3000 x:=fun x hx=>by
  rcases List.mem_append.1 hx with h|h
  ·exact⟨(hvl x h).1,(hvl x h).2.1⟩
  ·simp only[List.mem_cons,List.not_mem_nil,or_false]at h
   rcases h with rfl|rfl
   ·exact⟨hva.1,hva.2.1⟩
   ·exact⟨hvb.1,hvb.2.1⟩
 obtain⟨ck,hck⟩:∃n,n=chkT (vecT (l++[a,b])):=⟨_,rfl⟩
 have HCK:Hid (∀V u,TrLs V u (l++[a,b])->Calls Tryz.prog 20 #[.agg (trC 4 0 ⟨#[]⟩ (.slice none 0 0) u)] V fun e w'=>e=.returned (.int .i64 ck)/\Below V.heap.size V w'):=fun V u hu=>by
  rw[hck];exact rf_Check (vecT (l++[a,b])) _ V (vec_trv hu) (vec_few fun x hx=>(hmem x hx).1) (vec_txt fun x hx=>(hmem x hx).2)
 obtain⟨bo,hbo⟩:∃q,q=(ck !=0):=⟨_,rfl⟩
 have HPA:Hid (bo=false->chkT (vecT l)=0/\FewT 2000 (vecT l)/\TxtT 3000 (vecT l)/\nodT (vecT l)<=16384/\ValB (vecT (l.map canT))/\(∀x,x=a\/x=b->∀n,n<=l.length->ValB (canT x)->insT (vecT (l.map canT)) (n:Int) (canT x)=(vecT (putN n (l.map canT) (canT x)),0)/\ValB (vecT (putN n (l.map canT) (canT x))))):=fun hb0=>by
  refine parts_all hal (chkT_ok.1 hva.2.2.2.1).1 (chkT_ok.1 hvb.2.2.2.1).1 ?_;rw[<-hck];rw[hb0]at hbo;simpa using hbo.symm
 have HBO:Hid ((ck !=0)=bo):=hbo.symm;have HCA:Hid (ValB (canT a)):=hva.2.2.2.2.2;have HCB:Hid (ValB (canT b)):=hvb.2.2.2.2.2;have HOA1:Hid (∀W,Below w1.heap.size w1 W->Calls Tryz.prog 11 #[.agg #[.int .u64 (s1:Int),.int .i64 b1],.agg (trC ak an att (.slice aa al ac) (.slice ad am ae))] W fun e w'=>∃v,e=.returned v/\GotV12 (fun k=>W.heap.size<=k) w' v (canT a)/\Below W.heap.size W w'):=fun W hb=>by
  have h:=lw_of s1 b1 a _ W HS1.out (HVA.out W hb) hva.1 hva.2.1 (by have:=hva.2.2.1;omega) (HT1.out W hb);rw[hva.2.2.2.2.1]at h;exact h.mono fun e w' h=>by
   obtain⟨y,h1,h2,h3⟩:=h;exact⟨_,h1,⟨y,rfl,h2⟩,h3⟩
 have HOB1:Hid (∀W,Below w1.heap.size w1 W->Calls Tryz.prog 11 #[.agg #[.int .u64 (s1:Int),.int .i64 b1],.agg (trC bk bn btt (.slice ba bl bc) (.slice bd bm be))] W fun e w'=>∃v,e=.returned v/\GotV12 (fun k=>W.heap.size<=k) w' v (canT b)/\Below W.heap.size W w'):=fun W hb=>by
  have h:=lw_of s1 b1 b _ W HS1.out (HVB.out W hb) hvb.1 hvb.2.1 (by have:=hvb.2.2.1;omega) (HT1.out W hb);rw[hvb.2.2.2.2.1]at h;exact h.mono fun e w' h=>by
   obtain⟨y,h1,h2,h3⟩:=h;exact⟨_,h1,⟨y,rfl,h2⟩,h3⟩
 have HDS:Hid ((∀c∈ds,c.size=5)/\(∀c∈ds,c.all (·.oneCell')=true)/\ds.length<=12):=⟨HDS0.out.1,fun c hc=>by
  obtain⟨j,hj,rfl⟩:=List.mem_iff_getElem.1 hc;obtain⟨k,n,t,x1,x2,x3,x4,x5,x6,e⟩:=(HDS0.out.2.2 j (by have:=HDS0.out.2.1;omega) hj).cells;rw[e];simp[Value.oneCell'],by have:=HDS0.out.2.1;omega⟩
 have HAT:=iH (And.intro hatl nl);clear hck hbo hal hmem hva hvb hvl hab ol nl hatl HRE HRN;go_enter Tryz.func5,Tryz.ntmps5;go_upto_region 1 with fail
 clear hw1;go_upto_region 3 with(first
 |(go_at_call 9;(with_reducible refine(HLV.out _ HW.out).mono ?_);rintro r V ⟨rfl,hb⟩;replace HW:=iH (tW HW.out hb);clear hb)
 |(go_at_call 10;(with_reducible refine(HRL.out _ HW.out).mono ?_);rintro r V ⟨rfl,hb⟩;replace HW:=iH (tW HW.out hb);clear hb)
 |(refine ld_if (by rfl) 28 _ rfl (w.heap.size+1) rfl 28 _ _ _ (HX2.out _ HW.out) Tryz.underlying28 rfl tr_size12 ?_)
 |(refine ld_if (by rfl) 28 _ rfl (w.heap.size+2) rfl 28 _ _ _ (HX3.out _ HW.out) Tryz.underlying28 rfl tr_size12 ?_)
 |(go_at_call 10;(with_reducible refine(HRT.out _ HW.out).mono ?_);rintro r V ⟨rfl,hb⟩;replace HW:=iH (tW HW.out hb);clear hb))
 rename 0<=(at1:Int)/\¬sl<at1=>hq
 have e1:decide ((at1:Int)<0)=false:=decide_eq_false (by omega);have e2:decide (sl<at1)=false:=decide_eq_false hq.2;simp only[e1,e2,Bool.or_self];clear hneg hbig hq e1 e2;have HWD:Hid (Below w1.heap.size w1 V.drew):=HW.out.trans ((drawn_below V).mono HW.out.size);obtain⟨wd,hwd⟩:∃wd,wd=V.drew:=⟨_,rfl⟩
 rw[<-hwd]at HWD;have HKS:Hid (∀V',Below wd.heap.size wd V'->V'.heap[(w.heap.size+1)]? =some (.cells (trC ak an att (.slice aa al ac) (.slice ad am ae)) 28 (0,0))/\V'.heap[(w.heap.size+2)]? =some (.cells (trC bk bn btt (.slice ba bl bc) (.slice bd bm be)) 28 (0,0))):=fun V' hb=>by
  have h:=tW HWD.out hb;exact⟨HX2.out _ h,HX3.out _ h⟩
 have HSR:=iH (fun V' (hb:Below wd.heap.size wd V')=>HSR1.out V' (tW HWD.out hb));refine wp_region_T (S:=(fun V=>V.heap[(w.heap.size+1)]? =some (.cells (trC ak an att (.slice aa al ac) (.slice ad am ae)) 28 (0,0))/\V.heap[(w.heap.size+2)]? =some (.cells (trC bk bn btt (.slice ba bl bc) (.slice bd bm be)) 28 (0,0)))) [] (by kernel_rfl) (by rw[<-hwd];exact HKS.out _ (Below.refl _ _)) (fun hHeld=> ?_);refine tkL 1 45 (h:=?_);refine tyL 3 47 (hy:=yieldsIf_load_row (by rfl) 28 _ rfl (w.heap.size+1) rfl (trC ak an att (.slice aa al ac) (.slice ad am ae)) 28 (0,0) _ (fun w hw=>hw.1) Tryz.underlying28 rfl (by exact tr_size12)) (h:=?_);(try simp only[pq]);refine tyL 4 48 (hy:=yieldsIf_load_row (by rfl) 28 _ rfl (w.heap.size+2) rfl (trC bk bn btt (.slice ba bl bc) (.slice bd bm be)) 28 (0,0) _ (fun w hw=>hw.2) Tryz.underlying28 rfl (by exact tr_size12)) (h:=?_);(try simp only[pq]);rw[<-hwd]at hHeld ⊢;clear hwd;refine wpAnyT_groupA (n:=3) [0,2,5,6] (fun a0 m bq V=>∃val:Nat->Value,bq=((((a0.put (some 44) (val 0)).put (some 46) (val 2)).put (some 49) (val 5)).put (some 50) (val 6))/\Ap3 ds #[.int .i64 ak,.int .i64 an,.string att,.slice aa al ac,.slice ad am ae,.int .i64 bk,.int .i64 bn,.string btt,.slice ba bl bc,.slice bd bm be] [(trC ak an att (.slice aa al ac) (.slice ad am ae)),(trC bk bn btt (.slice ba bl bc) (.slice bd bm be))] wd V m val) rfl (by kernel_rfl) ⟨fun _=>undef,rfl,Below.refl _ _,fun h=>(by cases h),fun h=>(by cases h),fun h=>(by cases h),fun h=>(by cases h),fun h=>(by cases h),fun h=>(by cases h)⟩ (by assumption) ?step3 ?done3
 case step3=>
  as_aux_lemma=>
  clear hHeld;rintro m i bq V hi hni hwt ⟨val,rfl,hG⟩ hS;(try simp only[pq]);have HG:=iH hG;clear hG hS;have hk:∀V2,Below V.heap.size V V2->Below wd.heap.size wd V2:=fun V2 hb=>tW HG.out.bel hb
  rcases(by simp only[List.mem_cons,List.not_mem_nil,or_false]at hi;omega:i=0\/i=2\/i=5\/i=6)with rfl|rfl|rfl|rfl
  ·have n2:2∉m:=fun h=>hni (HG.out.c2 h)
   have n6:6∉m:=fun h=>hni (HG.out.c2 (HG.out.c6 h).1)
   refine group_one (o:=⟨some 44,_,_,_,_,_⟩) rfl (fun K hK=> ?_);go_simp;refine hK.out _ _ (by exact HKS.out _ (hk _ (Below.newly' _ _))) ⟨_,rfl,HG.out.s0 n2 n6⟩
  ·have n6:6∉m:=fun h=>hni (HG.out.c6 h).1
   have h0:0∈m:=hwt 0 rfl (by kernel_rfl);obtain⟨x,e0,hx,hxb⟩:=HG.out.x0 h0 hni;refine group_one (o:=⟨some 46,_,_,_,_,_⟩) rfl (fun K hK=> ?_);rw[if_pos (by rfl)];refine src_wp _ _ rfl rfl hx rfl (HSR.out _ HG.out.bel) HDS.out.1 HDS.out.2.1 (by have:=HDS.out.2.2;simp;omega) ?_;intro v' w' r1 r2;exact hK.out _ _ (by exact HKS.out _ (HG.out.bel.trans (hx.below' r2 (Nat.le_refl _) HG.out.bel.size))) ⟨_,rfl,HG.out.s2 (by simp) h0 hni n6 r1 r2⟩
  ·have n6:6∉m:=fun h=>hni (HG.out.c6 h).2
   refine group_one (o:=⟨some 49,_,_,_,_,_⟩) rfl (fun K hK=> ?_);rw[if_pos (by rfl)];refine bs_two _ _ rfl rfl rfl ?_;refine hK.out _ _ (by exact HKS.out _ (hk _ (Below.newly' _ _))) ⟨updV val 5 (.slice (some ⟨V.heap.size,0,none⟩) 2 2),rfl,HG.out.s5 n6⟩
  ·have h2:2∈m:=hwt 2 rfl (by kernel_rfl)
   have h5:5∈m:=hwt 5 rfl (by kernel_rfl);obtain⟨g,e5,hg5⟩:=HG.out.x5 h5 hni;have hx:=HG.out.x2 h2 hni;refine group_one (o:=⟨some 50,_,_,_,_,_⟩) rfl (fun K hK=> ?_);rw[if_pos (by rfl)];refine src_wp (ds:=[(trC ak an att (.slice aa al ac) (.slice ad am ae)),(trC bk bn btt (.slice ba bl bc) (.slice bd bm be))]) _ _ rfl rfl hx e5 (.inr ⟨⟨g,0,none⟩,2,rfl,fun j u hu=> ?_⟩) (fun c hc=>by simp only[List.mem_cons,List.not_mem_nil,or_false]at hc;rcases hc with rfl|rfl<;>rfl) (fun c hc=>by simp only[List.mem_cons,List.not_mem_nil,or_false]at hc;rcases hc with rfl|rfl<;>simp[Value.oneCell']) (by have:=HDS.out.2.2;simp;omega) ?_
   ·rw[show(⟨g,0,none⟩:Addr).add j=⟨g,j,none⟩ by unfold Addr.add;split<;>simp_all]
    exact cell_in hg5 (by rw[<-Array.getElem?_toList];exact hu)
   intro v' w' r1 r2;exact hK.out _ _ (by exact HKS.out _ (HG.out.bel.trans (hx.below' r2 (Nat.le_refl _) HG.out.bel.size))) ⟨_,rfl,HG.out.s6 h2 h5 hni r1 r2⟩
 case done3=>
  as_aux_lemma=>
  clear hHeld;rintro m b' V3 hm ⟨val,rfl,hG⟩ hHeld;have h6:=hG.x6 (hm 6 rfl);have hbl:=hG.bel;have hw3:=tW HWD.out hbl;have htl:TrLs V3 (val 6) (l++[a,b]):=trLs_rowsP h6 (by rw[List.length_append,List.length_append,HDS0.out.2.1];rfl) (by rw[List.length_append];have:=HAT.out;simp;omega) (fun j h1 h2=>by
   rcases Nat.lt_or_ge j l.length with hj|hj
   ·rw[List.getElem_append_left hj,List.getElem_append_left (by rw[HDS0.out.2.1];exact hj)]
    exact HDT.out V3 hw3 j hj (by rw[HDS0.out.2.1];exact hj)
   ·have e:j-ds.length=j-l.length:=by rw[HDS0.out.2.1]
    rw[List.getElem_append_right hj,List.getElem_append_right (by rw[HDS0.out.2.1];exact hj)];simp only[e];rw[List.length_append]at h1;have hj2:j-l.length=0\/j-l.length=1:=by simp at h1;omega
    obtain⟨q,hq⟩:∃q,q=j-l.length:=⟨_,rfl⟩
    rcases hj2 with h|h
    ·simp only[h]
     exact HVA.out V3 hw3
    ·simp only[h]
     exact HVB.out V3 hw3)
  have HU6:=iH htl;have HW:Hid (Below wd.heap.size wd V3):=hbl;obtain⟨u6,hu6⟩:∃u,u=val 6:=⟨_,rfl⟩
  obtain⟨u0,hu0⟩:∃u,u=val 0:=⟨_,rfl⟩
  obtain⟨u2',hu2⟩:∃u,u=val 2:=⟨_,rfl⟩
  obtain⟨u5,hu5⟩:∃u,u=val 5:=⟨_,rfl⟩
  rw[<-hu6]at HU6 ⊢;rw[<-hu0,<-hu2,<-hu5];clear hG hm h6 hbl hw3 htl hu6 hu0 hu2 hu5 HSR;obtain⟨ua,ul,uc,rfl⟩:∃ua ul uc,u6=.slice ua ul uc:=by
   obtain⟨a0,c0,b0,o0,e0,_⟩:=HU6.out;exact⟨_,_,_,e0⟩
  (try simp only[pq]);have hbo:=HBO.out;refine tkL 7 51 (h:=?_);(try simp only[pq]);refine tkO 8 (some 52) (h:=fun K hK=> ?_);go_simp;go_at_call 20;(with_reducible refine(HCK.out _ _ (by exact HU6.out)).mono ?_);rintro r V4 ⟨rfl,hb⟩;replace HW:=iH (tW HW.out hb);clear hb;dsimp only;refine hK.out _ _ (by exact HKS.out _ HW.out) (fun hHeld=> ?_);clear hK K;(try simp only[pq]);refine wpAnyT_takeL (i:=9) (oi:=⟨some 53,_,_,_,_,_⟩) (v:=(.bool bo)) rfl (by kernel_rfl) (by kernel_rfl) (by kernel_rfl) (by kernel_rfl) (fun _ _ _ h=>h) (Or.inl ⟨by rfl,?hg6_9⟩) (by assumption) ?rg6_9
  case hg6_9=>(intro w hSw;(try dsimp only at hSw);first|(go_simp;rw[hbo];done)|(go_simp;done)|(go_simp;simp[hbo];done))
  (try simp only[pq]);refine wpAnyT_done (by kernel_rfl) ?_ _;clear hHeld hbo;replace HW:=iH (tW HWD.out HW.out);clear HWD HKS HU6 HCK;cases bo with
  |true=>
   go_wp2_with fail
   have hb:=tW HB1.out HW.out;go_ret;exact⟨rfl,hb⟩
  |false=>
   obtain⟨p1,p2,p3,p4,p5,p6⟩:=HPA.out rfl;obtain⟨lc,hlc⟩:∃x,x=l.map canT:=⟨_,rfl⟩
   have hlen:lc.length=l.length:=by rw[hlc,List.length_map]
   have HOV:Hid (∀W,Below w1.heap.size w1 W->Calls Tryz.prog 11 #[.agg #[.int .u64 (s1:Int),.int .i64 b1],.agg (trC 4 0 ⟨#[]⟩ (.slice none 0 0) (.slice sa sl sc))] W fun e w'=>∃y,e=.returned (.agg (celC y))/\VAt (fun g=>W.heap.size<=g) w' (vecT lc) y/\Below W.heap.size W w'):=fun W hb=>by
    have h:=lw_of s1 b1 (vecT l) _ W HS1.out (vec_trv (HVL.out W hb)) p2 p3 (by omega) (HT1.out W hb);rw[show valO (vecT l)=vecT lc by unfold valO;rw[if_pos p1,vec_can,hlc]]at h;exact h
   rw[<-hlc]at p5 p6;have HVV:Hid (ValB (vecT lc)):=p5;have HPI:=iH p6;have HLC:=iH hlen;clear p1 p2 p3 p4 p5 p6 hlc hlen HPA;go_upto_region 6 with(first
    |(refine ld_if (by rfl) 24 _ rfl w.heap.size rfl 24 _ _ _ (HX1.out _ HW.out) Tryz.underlying24 rfl conf_size12 ?_)
    |(go_at_call 11;(with_reducible refine(HOV.out _ HW.out).mono ?_);rintro r V5 ⟨yv,rfl,hy,hb⟩;have HY:=iH hy;replace HW:=iH (tW HW.out hb);clear hb hy)
    |(refine st_agg rfl 35 _ _ rfl V5.heap.size (celC yv) rfl rfl 35 #[.int .i64 0,.int .i64 0,.string ⟨#[]⟩,.pointer none] (heap_alloc_last _ _) val_size rfl (celC_one yv) ?_;intro wv h1_ k1_;have hb1_:Below V5.heap.size V5 wv:=(Below.newly' _ _).trans (k1_.below (Nat.le_refl _));have HYV:=iH (HY.out.later hb1_);have HV5:=iH h1_;replace HW:=iH (tW HW.out hb1_);clear hb1_ h1_ k1_))
   have HWE:Hid (Below w1.heap.size w1 wv.drew):=HW.out.trans ((drawn_below wv).mono HW.out.size);have HXV:Hid (wv.drew.heap[V5.heap.size]? =some (.cells (celC yv) 35 (0,0))):=HV5.out;have HYE:Hid (VAt (fun _=>True) wv.drew (vecT lc) yv):=(HYV.out.later (drawn_below wv)).weak fun _ _=>trivial
   obtain⟨xv,hxv⟩:∃x,x=V5.heap.size:=⟨_,rfl⟩
   obtain⟨we,hwe⟩:∃we,we=wv.drew:=⟨_,rfl⟩
   rw[<-hwe]at HWE HXV HYE;rw[<-hxv]at HXV ⊢;have HKS:Hid (∀V',Below we.heap.size we V'->V'.heap[w.heap.size]? =some (.cells #[.int .u64 (s1:Int),.int .i64 b1] 24 (0,0))/\V'.heap[(w.heap.size+1)]? =some (.cells (trC ak an att (.slice aa al ac) (.slice ad am ae)) 28 (0,0))/\V'.heap[(w.heap.size+2)]? =some (.cells (trC bk bn btt (.slice ba bl bc) (.slice bd bm be)) 28 (0,0))):=fun V' hb=>by
    have h:=tW HWE.out hb;exact⟨HX1.out _ h,HX2.out _ h,HX3.out _ h⟩
   have HOA:=iH (fun W (hb:Below we.heap.size we W)=>HOA1.out W (tW HWE.out hb));have HOB:=iH (fun W (hb:Below we.heap.size we W)=>HOB1.out W (tW HWE.out hb));clear hxv HW HV5 HYV HY HOV;refine wp_region_T (S:=(fun V=>V.heap[w.heap.size]? =some (.cells #[.int .u64 (s1:Int),.int .i64 b1] 24 (0,0))/\V.heap[(w.heap.size+1)]? =some (.cells (trC ak an att (.slice aa al ac) (.slice ad am ae)) 28 (0,0))/\V.heap[(w.heap.size+2)]? =some (.cells (trC bk bn btt (.slice ba bl bc) (.slice bd bm be)) 28 (0,0)))) [8,9] (by kernel_rfl) (by rw[<-hwe];exact HKS.out _ (Below.refl _ _)) (fun hHeld=> ?_);refine tyL 0 58 (hy:=yieldsIf_load_row (by rfl) 24 _ rfl w.heap.size rfl #[.int .u64 (s1:Int),.int .i64 b1] 24 (0,0) _ (fun w hw=>hw.1) Tryz.underlying24 rfl (by exact conf_size12)) (h:=?_);refine tyL 1 59 (hy:=yieldsIf_load_row (by rfl) 28 _ rfl (w.heap.size+1) rfl (trC ak an att (.slice aa al ac) (.slice ad am ae)) 28 (0,0) _ (fun w hw=>hw.2.1) Tryz.underlying28 rfl (by exact tr_size12)) (h:=?_);(try simp only[pq]);refine tyL 3 61 (hy:=yieldsIf_load_row (by rfl) 24 _ rfl w.heap.size rfl #[.int .u64 (s1:Int),.int .i64 b1] 24 (0,0) _ (fun w hw=>hw.1) Tryz.underlying24 rfl (by exact conf_size12)) (h:=?_);refine tyL 4 62 (hy:=yieldsIf_load_row (by rfl) 28 _ rfl (w.heap.size+2) rfl (trC bk bn btt (.slice ba bl bc) (.slice bd bm be)) 28 (0,0) _ (fun w hw=>hw.2.2) Tryz.underlying28 rfl (by exact tr_size12)) (h:=?_);(try simp only[pq]);rw[<-hwe]at hHeld ⊢;clear hwe;refine wpAnyT_groupA (n:=2) [2,5,6,7] (fun a0 m bq V=>∃val:Nat->Value,bq=(((((((a0.put (some 60) (val 2))).put (some 63) (val 5))).put (some 12) (val 6))).put (some 13) (val 7))/\GrK GotV12 35 #[.int .i64 0,.int .i64 0,.string ⟨#[]⟩,.pointer none] [6,7] [(2,(canT a)),(5,(canT b))] we V m val) rfl (by kernel_rfl) ⟨fun _=>undef,rfl,GrK.start _⟩ (by assumption) ?step6 ?done6
   case step6=>
    as_aux_lemma=>
    clear hHeld;rintro m i bq V hi-hw ⟨val,rfl,hG⟩ hS;(try simp only[pq]);have HG:=iH hG;clear hG hS hw;rcases(by simp only[List.mem_cons,List.not_mem_nil,or_false]at hi;omega:i=2\/i=5\/i=6\/i=7)with rfl|rfl|rfl|rfl
    ·refine group_one (o:=⟨some 60,_,_,_,_,_⟩) rfl (fun K hK=> ?_)
     go_simp;go_at_call 11;(with_reducible refine(HOA.out V HG.out.bel).mono ?_);rintro e V2 ⟨c,rfl,hr,hb⟩;dsimp only;refine hK.out _ _ (by exact HKS.out _ (tW HG.out.bel hb)) ⟨_,rfl,GrK.call gotV_later12 HG.out hb (by decide) (fun g hg e=> ?_)⟩;simp only[List.mem_cons,List.not_mem_nil,or_false]at hg;rcases hg with rfl|rfl<;>first|(exfalso;simp at e;done)|exact hr
    ·refine group_one (o:=⟨some 63,_,_,_,_,_⟩) rfl (fun K hK=> ?_)
     go_simp;go_at_call 11;(with_reducible refine(HOB.out V HG.out.bel).mono ?_);rintro e V2 ⟨c,rfl,hr,hb⟩;dsimp only;refine hK.out _ _ (by exact HKS.out _ (tW HG.out.bel hb)) ⟨_,rfl,GrK.call gotV_later12 HG.out hb (by decide) (fun g hg e=> ?_)⟩;simp only[List.mem_cons,List.not_mem_nil,or_false]at hg;rcases hg with rfl|rfl<;>first|(exfalso;simp at e;done)|exact hr
    ·refine group_one (o:=⟨some 12,_,_,_,_,_⟩) rfl (fun K hK=> ?_)
     go_simp;refine hK.out _ _ (by exact HKS.out _ (HG.out.bel.trans ((Below.newly' V _).mono HG.out.bel.size))) ⟨_,rfl,GrK.alloc gotV_later12 gotV_old12 HG.out (fun g hg e=>by simp only[List.mem_cons,List.not_mem_nil,or_false]at hg;rcases hg with rfl|rfl<;>(simp at e))⟩
    ·refine group_one (o:=⟨some 13,_,_,_,_,_⟩) rfl (fun K hK=> ?_)
     go_simp;refine hK.out _ _ (by exact HKS.out _ (HG.out.bel.trans ((Below.newly' V _).mono HG.out.bel.size))) ⟨_,rfl,GrK.alloc gotV_later12 gotV_old12 HG.out (fun g hg e=>by simp only[List.mem_cons,List.not_mem_nil,or_false]at hg;rcases hg with rfl|rfl<;>(simp at e))⟩
   case done6=>
    as_aux_lemma=>
    clear hHeld;rintro m b' V hm ⟨val,rfl,hG⟩-
    obtain⟨x1,e1,g1,z1⟩:=hG.made 6 (by decide) (hm 6 rfl);obtain⟨x2,e2,g2,z2⟩:=hG.made 7 (by decide) (hm 7 rfl);obtain⟨S1,⟨y1,f1,r1⟩,q1⟩:=hG.got (2,(canT a)) (by simp) (hm 2 rfl);obtain⟨S2,⟨y2,f2,r2⟩,q2⟩:=hG.got (5,(canT b)) (by simp) (hm 5 rfl);have n12:x1≠x2:=fun e=>hG.apart 6 (by decide) 7 (by decide) (hm 6 rfl) (hm 7 rfl) (by decide) (by rw[e1,e2,e])
    have q11:=q1 6 (by decide) (hm 6 rfl) x1 e1;have q12:=q1 7 (by decide) (hm 7 rfl) x2 e2;have q21:=q2 6 (by decide) (hm 6 rfl) x1 e1;have q22:=q2 7 (by decide) (hm 7 rfl) x2 e2;have hbel:=hG.bel;rw[e1,e2];dsimp only at f1 f2 r1 r2;rw[f1,f2];have HZ1:=iH z1;have HZ2:=iH z2;have HNE:=iH n12;have HV1:=iH r1;have HV2:=iH r2;have HQ:=iH (And.intro (And.intro q11 q12) (And.intro q21 q22));have HGE:=iH (And.intro g1 g2);have HBL:=iH hbel;clear hG hm e1 e2 f1 f2 r1 r2 q1 q2 n12 g1 g2 z1 z2 hbel q11 q12 q21 q22;(try simp only[pq]);refine tkU 8 none (h:=fun K hK=> ?_);refine st_agg_wp 35 _ _ rfl x1 (celC y1) rfl rfl 35 #[.int .i64 0,.int .i64 0,.string ⟨#[]⟩,.pointer none] (HZ1.out) val_size rfl (celC_one y1) ?_;intro wa hwa kwa;refine hK.out _ _ ?_;clear hK K;(try simp only[pq]);refine tkU 9 none (h:=fun K hK=> ?_);refine st_agg_wp 35 _ _ rfl x2 (celC y2) rfl rfl 35 #[.int .i64 0,.int .i64 0,.string ⟨#[]⟩,.pointer none] (kwa.other HZ2.out (fun e=>HNE.out e.symm)) val_size rfl (celC_one y2) ?_;intro wb hwb kwb;refine hK.out _ _ ?_;clear hK K;(try simp only[pq]);refine wpAnyT_done (by kernel_rfl) ?_ _;have hkA:=HV1.out.kq (Kq.only kwa HQ.out.1.1);have HY1:Hid (VAt (fun _=>True) wb (canT a) y1):=(hkA.kq (Kq.only kwb HQ.out.1.2)).weak fun _ _=>trivial
    have HY2:Hid (VAt (fun _=>True) wb (canT b) y2):=((HV2.out.kq (Kq.only kwa HQ.out.2.1)).kq (Kq.only kwb HQ.out.2.2)).weak fun _ _=>trivial
    have hbb:Below we.heap.size we wb:=HBL.out.trans ((kwa.below HGE.out.1).trans (kwb.below HGE.out.2));have HWB:=iH (tW HWE.out hbb);have HYB:=iH (HYE.out.later hbb);have h0:=kW hbb HXV.out;have h1:=kwb.other hwa HNE.out;have HPX:Hid (∀W,Below wb.heap.size wb W->W.heap[xv]? =some (.cells (celC yv) 35 (0,0))/\W.heap[x1]? =some (.cells (celC y1) 35 (0,0))/\W.heap[x2]? =some (.cells (celC y2) 35 (0,0))):=fun W hb=>⟨kW hb h0,kW hb h1,kW hb hwb⟩
    have HTG:=iH (fun W (hb:Below wb.heap.size wb W)=>HT1.out W (tW HWB.out hb));have HIX:Hid (∀W,Below wb.heap.size wb W->Calls Tryz.prog 21 #[.agg (celC yv),.int .i64 (at1:Int),.agg (celC y1)] W fun e w'=>∃y,e=.returned (.tuple #[.agg (celC y),.int .i64 0])/\VAt (fun _=>True) w' (vecT (putN at1 lc (canT a))) y/\Below W.heap.size W w'):=fun W hb=>by
     have h:=va_Insert W (vecT lc) yv HVV.out (HYB.out.later hb) (at1:Int) (canT a) y1 HCA.out (HY1.out.later hb);rw[(HPI.out a (.inl rfl) at1 HAT.out.1 HCA.out).1]at h;exact h.mono fun e w' h=>by
      obtain⟨y,h1,h2,h3⟩:=h;exact⟨y,h1,h2.weak fun _ _=>trivial,h3⟩
    have HIY:Hid (∀W,Below wb.heap.size wb W->Calls Tryz.prog 21 #[.agg (celC yv),.int .i64 (at1:Int),.agg (celC y2)] W fun e w'=>∃y,e=.returned (.tuple #[.agg (celC y),.int .i64 0])/\VAt (fun _=>True) w' (vecT (putN at1 lc (canT b))) y/\Below W.heap.size W w'):=fun W hb=>by
     have h:=va_Insert W (vecT lc) yv HVV.out (HYB.out.later hb) (at1:Int) (canT b) y2 HCB.out (HY2.out.later hb);rw[(HPI.out b (.inr rfl) at1 HAT.out.1 HCB.out).1]at h;exact h.mono fun e w' h=>by
      obtain⟨y,h1,h2,h3⟩:=h;exact⟨y,h1,h2.weak fun _ _=>trivial,h3⟩
    have HIZ:Hid (∀W,Below wb.heap.size wb W->Calls Tryz.prog 21 #[.agg (celC yv),.int .i64 (sl:Int),.agg (celC y1)] W fun e w'=>∃y,e=.returned (.tuple #[.agg (celC y),.int .i64 0])/\VAt (fun _=>True) w' (vecT (lc++[canT a])) y/\Below W.heap.size W w'):=fun W hb=>by
     have h:=va_Insert W (vecT lc) yv HVV.out (HYB.out.later hb) (sl:Int) (canT a) y1 HCA.out (HY1.out.later hb);rw[(HPI.out a (.inl rfl) sl (Nat.le_of_eq HSL.out) HCA.out).1]at h;rw[show sl=lc.length by rw[HLC.out];exact HSL.out,parts_end]at h;rw[show(sl:Int)=((lc.length:Nat):Int) by rw[HLC.out];exact congrArg _ HSL.out];exact h.mono fun e w' h=>by
      obtain⟨y,h1,h2,h3⟩:=h;exact⟨y,h1,h2.weak fun _ _=>trivial,h3⟩
    have HW:Hid (Below wb.heap.size wb wb):=Below.refl _ _;have HVP:Hid (ValB (vecT (putN at1 lc (canT a)))/\ValB (vecT (putN at1 lc (canT b)))):=⟨(HPI.out a (.inl rfl) at1 HAT.out.1 HCA.out).2,(HPI.out b (.inr rfl) at1 HAT.out.1 HCB.out).2⟩
    have HVZ:Hid (ValB (vecT (lc++[canT a]))):=by
     have h:=(HPI.out a (.inl rfl) l.length (Nat.le_refl _) HCA.out).2;rw[<-HLC.out,parts_end]at h;exact h
    clear hkA hbb h0 h1 hwa hwb kwa kwb HZ1 HZ2 HV1 HV2 HQ HGE HBL HNE HXV HYE HKS HOA HOB HOA1 HOB1;go_upto_region 8 with(first
     |(refine ld_if (by rfl) 35 _ rfl xv rfl 35 _ _ _ (HPX.out _ HW.out).1 Tryz.underlying35 rfl val_size ?_)
     |(refine ld_if (by rfl) 35 _ rfl x1 rfl 35 _ _ _ (HPX.out _ HW.out).2.1 Tryz.underlying35 rfl val_size ?_)
     |(go_at_call 21;(with_reducible refine(HIX.out _ HW.out).mono ?_);rintro r V7 ⟨yx,rfl,hy,hb⟩;have HY7:=iH hy;replace HW:=iH (tW HW.out hb);clear hb hy)
     |(refine st_agg rfl 35 _ _ rfl V7.heap.size (celC yx) rfl rfl 35 #[.int .i64 0,.int .i64 0,.string ⟨#[]⟩,.pointer none] (heap_alloc_last _ _) val_size rfl (celC_one yx) ?_;intro wx h1_ k1_;have hb1_:Below V7.heap.size V7 wx:=(Below.newly' _ _).trans (k1_.below (Nat.le_refl _));have HVX:=iH (HY7.out.later hb1_);have HBX:=iH h1_;replace HW:=iH (tW HW.out hb1_);clear hb1_ h1_ k1_))
    obtain⟨xx,hxx⟩:∃x,x=V7.heap.size:=⟨_,rfl⟩
    rw[<-hxx]at HBX ⊢;have HWX:Hid (Below wb.heap.size wb wx):=HW.out;have HKX:Hid (∀W,Below wx.heap.size wx W->W.heap[xx]? =some (.cells (celC yx) 35 (0,0))/\VAt (fun _=>True) W (vecT (putN at1 lc (canT a))) yx):=fun W hb=>⟨kW hb HBX.out,HVX.out.later hb⟩
    clear hxx HBX HVX HY7 HIX;replace HW:Hid (Below wx.heap.size wx wx):=Below.refl _ _;have HPX2:Hid (∀W,Below wx.heap.size wx W->Below wb.heap.size wb W):=fun W hb=>tW HWX.out hb
    go_upto_region 9 with(first
     |(refine ld_if (by rfl) 35 _ rfl xv rfl 35 _ _ _ (HPX.out _ (HPX2.out _ HW.out)).1 Tryz.underlying35 rfl val_size ?_)
     |(refine ld_if (by rfl) 35 _ rfl x2 rfl 35 _ _ _ (HPX.out _ (HPX2.out _ HW.out)).2.2 Tryz.underlying35 rfl val_size ?_)
     |(go_at_call 21;(with_reducible refine(HIY.out _ (HPX2.out _ HW.out)).mono ?_);rintro r V8 ⟨yy,rfl,hy,hb⟩;have HY8:=iH hy;replace HW:=iH (tW HW.out hb);clear hb hy)
     |(refine st_agg rfl 35 _ _ rfl V8.heap.size (celC yy) rfl rfl 35 #[.int .i64 0,.int .i64 0,.string ⟨#[]⟩,.pointer none] (heap_alloc_last _ _) val_size rfl (celC_one yy) ?_;intro wy h1_ k1_;have hb1_:Below V8.heap.size V8 wy:=(Below.newly' _ _).trans (k1_.below (Nat.le_refl _));have HVY:=iH (HY8.out.later hb1_);have HBY:=iH h1_;replace HW:=iH (tW HW.out hb1_);clear hb1_ h1_ k1_))
    obtain⟨xy,hxy⟩:∃x,x=V8.heap.size:=⟨_,rfl⟩
    rw[<-hxy]at HBY ⊢;have hxw:=HW.out;have hbw:=tW HWX.out hxw;have HK9:Hid (∀W,Below wy.heap.size wy W->W.heap[xx]? =some (.cells (celC yx) 35 (0,0))/\W.heap[xy]? =some (.cells (celC yy) 35 (0,0))/\W.heap[x1]? =some (.cells (celC y1) 35 (0,0))/\W.heap[x2]? =some (.cells (celC y2) 35 (0,0))):=fun W hb=>by
     have h1:=tW hbw hb;exact⟨(HKX.out W (tW hxw hb)).1,kW hb HBY.out,(HPX.out W h1).2.1,(HPX.out W h1).2.2⟩
    have HTY:=iH (fun W (hb:Below wy.heap.size wy W)=>HTG.out W (tW hbw hb));obtain⟨n,hn⟩:∃n,n=ordT (canT a) (canT b):=⟨_,rfl⟩
    have HO1:Hid (∀W,Below wy.heap.size wy W->Calls Tryz.prog 14 #[.agg (celC yx),.agg (celC yy)] W fun e w'=>e=.returned (.int .i64 n)/\Below W.heap.size W w'):=fun W hb=>by
     have h:=od_Order _ _ _ _ W (HKX.out W (tW hxw hb)).2 ((HVY.out.later hb).weak fun _ _=>trivial) HVP.out.1 HVP.out.2 (HTY.out W hb);rw[parts_turn _ _ HCA.out.1.1 HCB.out.1.1,<-hn]at h;exact h
    have HO2:Hid (∀W,Below wy.heap.size wy W->Calls Tryz.prog 14 #[.agg (celC y1),.agg (celC y2)] W fun e w'=>e=.returned (.int .i64 n)/\Below W.heap.size W w'):=fun W hb=>by
     have h1:=tW hbw hb;have h:=od_Order _ _ _ _ W (HY1.out.later h1) (HY2.out.later h1) HCA.out HCB.out (HTY.out W hb);rw[<-hn]at h;exact h
    have HWY:Hid (Below wb.heap.size wb wy):=hbw;replace HW:Hid (Below wy.heap.size wy wy.drew):=drawn_below wy;clear hxy hxw hbw hn HBY HVY HY8 HIY HKX HPX2 HWX HVP;refine wp_region_T (S:=(fun V=>V.heap[xx]? =some (.cells (celC yx) 35 (0,0))/\V.heap[xy]? =some (.cells (celC yy) 35 (0,0))/\V.heap[x1]? =some (.cells (celC y1) 35 (0,0))/\V.heap[x2]? =some (.cells (celC y2) 35 (0,0)))) [] (by kernel_rfl) (by exact HK9.out _ HW.out) (fun hHeld=> ?_);refine tkL 0 78 (h:=?_);refine tkL 1 79 (h:=?_);(try simp only[pq]);refine tkL 2 80 (h:=?_);refine tkL 3 81 (h:=?_);(try simp only[pq]);refine tkL 4 82 (h:=?_);refine tkL 5 83 (h:=?_);(try simp only[pq]);refine tkL 6 84 (h:=?_);refine tyL 7 85 (hy:=yieldsIf_load_row (by rfl) 35 _ rfl xx rfl (celC yx) 35 (0,0) _ (fun w hw=>hw.1) Tryz.underlying35 rfl (by exact val_size)) (h:=?_);(try simp only[pq]);refine tyL 8 86 (hy:=yieldsIf_load_row (by rfl) 35 _ rfl xy rfl (celC yy) 35 (0,0) _ (fun w hw=>hw.2.1) Tryz.underlying35 rfl (by exact val_size)) (h:=?_);refine tyL 10 88 (hy:=yieldsIf_load_row (by rfl) 35 _ rfl x1 rfl (celC y1) 35 (0,0) _ (fun w hw=>hw.2.2.1) Tryz.underlying35 rfl (by exact val_size)) (h:=?_);(try simp only[pq]);refine tyL 11 89 (hy:=yieldsIf_load_row (by rfl) 35 _ rfl x2 rfl (celC y2) 35 (0,0) _ (fun w hw=>hw.2.2.2) Tryz.underlying35 rfl (by exact val_size)) (h:=?_);(try simp only[pq]);refine tkO 9 (some 87) (h:=fun K hK=> ?_);go_simp;go_at_call 14;(with_reducible refine(HO1.out _ (by exact HW.out)).mono ?_);rintro r wr9 ⟨rfl,hb⟩;replace HW:=iH (tW HW.out hb);clear hb;dsimp only;refine hK.out _ _ (by exact HK9.out _ HW.out) (fun hHeld=> ?_);clear hK K;(try simp only[pq]);refine tkO 12 (some 90) (h:=fun K hK=> ?_);go_simp;go_at_call 14;(with_reducible refine(HO2.out _ (by exact HW.out)).mono ?_);rintro r wr12 ⟨rfl,hb⟩;replace HW:=iH (tW HW.out hb);clear hb;dsimp only;refine hK.out _ _ (by exact HK9.out _ HW.out) (fun hHeld=> ?_);clear hK K;(try simp only[pq])
    refine wpAnyT_takeL (i:=13) (oi:=⟨some 91,_,_,_,_,_⟩) (v:=(.bool false)) rfl (by kernel_rfl) (by kernel_rfl) (by kernel_rfl) (by kernel_rfl) (fun _ _ _ h=>h) (Or.inl ⟨by rfl,?hg8_13⟩) (by assumption) ?rg8_13
    case hg8_13=>(intro w hSw;(try dsimp only at hSw);first|(go_simp;done)|(go_simp;simp[bne];done))
    (try simp only[pq]);refine tkL 14 92 (h:=?_);(try simp only[pq]);refine wpAnyT_done (by kernel_rfl) ?_ _;clear hHeld HO1 HO2 HK9;replace HW:=iH (tW HWY.out HW.out);go_upto_region 12 with(first
     |(refine ld_if (by rfl) 35 _ rfl xv rfl 35 _ _ _ (HPX.out _ HW.out).1 Tryz.underlying35 rfl val_size ?_)
     |(refine ld_if (by rfl) 35 _ rfl x1 rfl 35 _ _ _ (HPX.out _ HW.out).2.1 Tryz.underlying35 rfl val_size ?_)
     |(go_at_call 21;(with_reducible refine(HIZ.out _ HW.out).mono ?_);rintro r V11 ⟨yz,rfl,hy,hb⟩;have HY11:=iH hy;replace HW:=iH (tW HW.out hb);clear hb hy)
     |(refine st_agg rfl 35 _ _ rfl V11.heap.size (celC yz) rfl rfl 35 #[.int .i64 0,.int .i64 0,.string ⟨#[]⟩,.pointer none] (heap_alloc_last _ _) val_size rfl (celC_one yz) ?_;intro wz h1_ k1_;have hb1_:Below V11.heap.size V11 wz:=(Below.newly' _ _).trans (k1_.below (Nat.le_refl _));have HVZ2:=iH (HY11.out.later hb1_);have HBZ:=iH h1_;replace HW:=iH (tW HW.out hb1_);clear hb1_ h1_ k1_))
    obtain⟨xz,hxz⟩:∃x,x=V11.heap.size:=⟨_,rfl⟩
    rw[<-hxz]at HBZ ⊢;have HWZ:Hid (Below wb.heap.size wb wz):=HW.out;have HKZ:Hid (∀W,Below wz.heap.size wz W->W.heap[xz]? =some (.cells (celC yz) 35 (0,0))/\W.heap[xv]? =some (.cells (celC yv) 35 (0,0))):=fun W hb=>⟨kW hb HBZ.out,(HPX.out _ (tW HWZ.out hb)).1⟩
    have HO1:Hid (∀W,Below wz.heap.size wz W->Calls Tryz.prog 14 #[.agg (celC yv),.agg (celC yz)] W fun e w'=>e=.returned (.int .i64 (-1))/\Below W.heap.size W w'):=fun W hb=>by
     have h1:=tW HWZ.out hb;have h:=od_Order _ _ _ _ W (HYB.out.later h1) ((HVZ2.out.later hb).weak fun _ _=>trivial) HVV.out HVZ.out (HTG.out W h1);rw[show ordT (vecT lc) (vecT (lc++[canT a]))= -1 from ordT_more lc HCA.out.1.1]at h;exact h
    have HO2:Hid (∀W,Below wz.heap.size wz W->Calls Tryz.prog 14 #[.agg (celC yz),.agg (celC yv)] W fun e w'=>e=.returned (.int .i64 1)/\Below W.heap.size W w'):=fun W hb=>by
     have h1:=tW HWZ.out hb;have h:=od_Order _ _ _ _ W ((HVZ2.out.later hb).weak fun _ _=>trivial) (HYB.out.later h1) HVZ.out HVV.out (HTG.out W h1);rw[show ordT (vecT (lc++[canT a])) (vecT lc)=1 from ordT_less lc HCA.out.1.1]at h;exact h
    clear hxz HBZ HVZ2 HY11 HIZ;replace HW:Hid (Below wz.heap.size wz wz):=Below.refl _ _;go_wp2_with (first
     |(refine ld_if (by rfl) 35 _ rfl xz rfl 35 _ _ _ (HKZ.out _ HW.out).1 Tryz.underlying35 rfl val_size ?_)
     |(refine ld_if (by rfl) 35 _ rfl xv rfl 35 _ _ _ (HKZ.out _ HW.out).2 Tryz.underlying35 rfl val_size ?_)
     |(go_at_call 14;(with_reducible refine(HO1.out _ HW.out).mono ?_);rintro r V12 ⟨rfl,hb⟩;replace HW:=iH (tW HW.out hb);clear hb)
     |(go_at_call 14;(with_reducible refine(HO2.out _ HW.out).mono ?_);rintro r V13 ⟨rfl,hb⟩;replace HW:=iH (tW HW.out hb);clear hb))
    have hb0:=HWB.out.trans ((tW HWZ.out HW.out).mono HWB.out.size);have hb:=tW HB1.out hb0;go_ret;exact⟨rfl,hb⟩
end Go.Proofs.YtengibnpebfblaaGreatDoor
