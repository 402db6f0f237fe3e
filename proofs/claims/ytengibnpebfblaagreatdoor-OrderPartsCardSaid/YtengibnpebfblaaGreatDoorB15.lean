import Derived.Test.YtengibnpebfblaaGreatDoorB14
set_option maxRecDepth 1000000
set_option maxHeartbeats 8000000
set_option linter.unusedSimpArgs false
namespace Go.Proofs.YtengibnpebfblaaGreatDoor
open Go.RowKit Go.Shelf
attribute [local go_sem] Oper.semAt_some
abbrev encG (x:Nat×Pl):Array Value:=#[Value.int .i64 (x.1:Int),Value.agg (plc x.2)]
def PlsIn (n₀:Nat) (W:World) (v:Value) (xs:List Pl):Prop:=
 (xs=[]/\v=.slice none 0 0)\/(0<xs.length/\∃(g c:Nat),v=.slice (some ⟨g,0,none⟩) xs.length c/\g<n₀/\∀k (hk:k<xs.length),W.rangeAt g (k*2) (enPl xs[k]))
theorem pls_in {S:Nat->Prop} {n₀:Nat} {W:World} {v:Value} {xs:List Pl} {n:Nat} (h:HeadAt S W 186 2 v (en enPl xs) n) (hS:∀g,S g->g<n₀):PlsIn n₀ W v xs:=by
 have hl:=h.1;rw[en_len enPl_len]at hl;rcases Nat.eq_zero_or_pos n with h0|h0
 ·obtain⟨_,⟨_,rfl⟩|⟨h1,_⟩⟩:=h
  ·exact .inl ⟨List.eq_nil_of_length_eq_zero (by omega),rfl⟩
  ·omega
 ·have hn:n=xs.length:=by omega
  subst hn;obtain⟨g,c,_,_,h1,_,h2,_⟩:=h.pos h0;refine .inr ⟨h0,g,c,h1,hS g h2,fun k hk=> ?_⟩;obtain⟨g',c',e,_,_,_,_,hr⟩:=pl_range h (List.getElem?_eq_getElem hk);rw[h1]at e;simp only[Value.slice.injEq,Option.some.injEq,Addr.mk.injEq,true_and,and_true]at e;rw[e.1];exact hr
theorem PlsIn.below {n₀:Nat} {A B:World} {v:Value} {xs:List Pl} (h:Below n₀ A B):PlsIn n₀ A v xs->PlsIn n₀ B v xs
 | .inl e=>.inl e
 | .inr ⟨h0,g,c,e,hg,hc⟩=>.inr ⟨h0,g,c,e,hg,fun k hk j u hu=>(h.cell (p:=⟨g,k*2+j,none⟩) hg).trans (hc k hk j u hu)⟩
theorem pr_all1_in (n:Nat) (hn:1<=n) (l Bs n₀:Nat) (R:Rg Pl) (g cp:Nat) (hgn:g<n₀) (htn:1<n₀) (J Jx:List (Nat×Pl)->World->Prop)
  (hJ:∀s A B,J s A->Below A.heap.size A B->J s B)
  (hY:∀pre x W,J pre W->pre.length<(allG R).length->x∈allG R->YieldAt Fence.wide (n-1) Tryz.prog l (encG x) W fun e W'=>
   (e=.returned (.bool true)/\J (pre++[x]) W'/\Below n₀ W W')\/(e=.returned (.bool false)/\Jx (pre++[x]) W'))
  (W:World) (hnW:n₀<=W.heap.size) (hB0:W.cell? ⟨Bs,0,none⟩=some (.int .u32 (bitsG R 32:Nat))) (hB1:W.cell? ⟨Bs,1,none⟩=some (.slice (some ⟨g,0,none⟩) (lisG R).length cp))
  (hL:∀k (hk:k<(lisG R).length),W.rangeAt g (k*2) (enPl (lisG R)[k])) (hT:Tab6 W) (h0:J [] W):
  CallsIn Fence.wide n Tryz.prog 152 #[.func (.yield l) #[] #[],.pointer (some ⟨Bs,0,none⟩)] W fun e W'=>(∃v,e=.returned v)/\
   ((∃ys,ys=allG R/\J ys W')\/(∃pre,(∃k,k<=(allG R).length/\pre=(allG R).take k)/\Jx pre W')):=by
 have HJA:=iH hJ;clear hJ;refine callsIn_of_wp Tryz.func152 rfl trivial ?_ rfl;simp only[Tryz.ntmps152,List.size_toArray,List.length_cons,List.length_nil,Nat.reduceAdd,Nat.reduceSub,Array.replicate_succ,Array.replicate_zero,List.push_toArray,List.append_toArray,List.nil_append,List.cons_append];gi_wp2
 have HLEN:=iH (show(lisG R).length=(allG R).length by rw[lisG_len,all_lenG]);have hl32:((lisG R).length:Int)<=32:=by have:=cnt_leG R 32;rw[<-lisG_len]at this;omega
 have HNW:=iH hnW;clear hnW;gi_loopw [3,11] (fun left i wr=>∃k p:Nat,k<=(lisG R).length/\cntG R p=k/\i=.int .i64 k/\left=.int .u32 (leftN (bitsG R 32) p:Nat)/\J ((allG R).take k) wr/\Below n₀ W wr) (fun _ i _=>(lisG R).length-(intOf i).toNat)
 case atStart=>exact⟨0,0,Nat.zero_le _,rfl,rfl,by rw[left_zero],h0,Below.refl _ _⟩
 case round=>
  obtain⟨k,p,hk,hp,rfl,rfl,hJs,hnx⟩:=hrel;by_cases hlt:k<(lisG R).length
  ·obtain⟨q,x,hz0,hctz,hpq,hq,hx,hcq,hcq1,hleft⟩:=left_lowG R (p:=p) (by rw[hp,<-lisG_len];exact hlt)
   have HRG:Hid (wr.rangeAt g (k*2) (enPl (lisG R)[k])):=fun j u hu=>(hnx.cell (p:=⟨g,k*2+j,none⟩) hgn).trans (hL k hlt j u hu)
   have hal:=all_atG R hq hx;rw[hcq,hp]at hal;have hli:=lis_atG R hq hx;rw[hcq,hp,List.getElem?_eq_getElem hlt]at hli;obtain hli:=Option.some.inj hli;rw[hli]at HRG;have htk:(allG R).take k++[(q,x)]=(allG R).take (k+1):=by
    obtain⟨h1,h2⟩:=List.getElem?_eq_some_iff.1 hal;rw[List.take_succ_eq_append_getElem h1,h2]
   have HY:Hid (∀V,J ((allG R).take k) V->YieldAt Fence.wide (n-1) Tryz.prog l (encG (q,x)) V fun e W'=>
     (e=.returned (.bool true)/\J ((allG R).take k++[(q,x)]) W'/\Below n₀ V W')\/(e=.returned (.bool false)/\Jx ((allG R).take k++[(q,x)]) W')):=fun V hV=>hY _ (q,x) V hV (by rw[List.length_take,<-HLEN.out];omega) (List.mem_of_getElem? hal)
   have hLlt:leftN (bitsG R 32) p<4294967296:=left_lt p (bits_ltG R 32);have HT3:Hid (∀V,Below n₀ W V->Tab6 V):=fun V hV j hj=>(hV.cell (p:=⟨1,j,none⟩) htn).trans (hT j hj)
   have HZ:Hid (∀V,Tab6 V->Calls Tryz.prog 153 #[.int .u32 (leftN (bitsG R 32) p:Nat)] V fun e w'=>e=.returned (.int .i64 (q:Nat))/\w'=V):=fun V hV=>by
    have h:=sp_zeros (leftN (bitsG R 32) p) hLlt hz0 V hV;rw[hctz]at h;exact h
   obtain⟨L,hLe⟩:∃L,L=leftN (bitsG R 32) p:=⟨_,rfl⟩
   obtain⟨L',hLe'⟩:∃L',L'=leftN (bitsG R 32) (q+1):=⟨_,rfl⟩
   rw[<-hLe,<-hLe']at hleft;rw[<-hLe]at hz0 hLlt HZ ⊢;obtain⟨M,hM⟩:∃M,M=L-1:=⟨_,rfl⟩
   rw[<-hM]at hleft;have e1:(L:Int)-1=(M:Int):=by omega
   have e2:bits .and .u32 (L:Int) (M:Int)=(L':Int):=by rw[<-hleft];exact and_32 L M hLlt
   have hL1:1<=(L:Int):=by omega
   have HLE':=iH hLe';have HTK:=iH htk;have HCQ:=iH (hcq1.trans (by rw[hp]));have HJS:=iH hJs;have HNX:=iH hnx;have HLT:=iH hlt;clear hal hli htk hleft hM hctz hLe hLe' hcq hcq1 hJs hnx hL hY hT h0;gi_wp2_with (first
    |(refine mid_wide rfl 186 _ rfl g (k*2) rfl (enPl x) _ HRG.out Tryz.underlying186 rfl pl_size ?_)
    |(refine st_wide rfl 186 _ _ rfl wr.heap.size (plc x) rfl rfl 186 (plc (none,none)) (heap_alloc_last _ _) pl_size rfl (plc_one x) ?_;intro w5 h5 k5;have HB5:Hid (Below wr.heap.size wr w5):=(Below.newly' _ _).trans (k5.below (Nat.le_refl _));have HX5:=iH h5;clear h5 k5))
   (try simp only[pq]);have HB6:Hid (Below wr.heap.size wr w5.drew):=Below.drewMany HB5.out 1;refine wpIn_region_W (S:=fun V=>V.heap[wr.heap.size]? =some (.cells (plc x) 186 (0,0))/\Tab6 V) [4,5] (by kernel_rfl) ⟨HX5.out,HT3.out _ (HNX.out.trans (HB6.out.mono (Nat.le_trans HNW.out HNX.out.size)))⟩ (fun hHeld=> ?_);refine wpAnyW_take (i:=0) (oi:=⟨some 15,_,_,_,_,_⟩) (v:=?v0) rfl (by kernel_rfl) (by kernel_rfl) (by kernel_rfl) (by kernel_rfl) (fun _ _ _ h=>h) (Or.inl ⟨by rfl,?h0⟩) (by assumption) ?r0
   case h0=>(intro w hSw;(try dsimp only at hSw);first|(go_simp;done)|(go_simp;with_reducible rfl))
   (try simp only[pq]);refine wpAnyW_take (i:=1) (oi:=⟨some 16,_,_,_,_,_⟩) (v:=?v1) rfl (by kernel_rfl) (by kernel_rfl) (by kernel_rfl) (by kernel_rfl) (fun _ _ _ h=>h) (Or.inl ⟨by rfl,?h1⟩) (by assumption) ?r1
   case h1=>(intro w hSw;(try dsimp only at hSw);first|(go_simp;done)|(go_simp;with_reducible rfl))
   (try simp only[pq]);refine wpAnyW_takeC (i:=2) (oi:=⟨some 17,_,_,_,_,_⟩) (v:=.int .i64 (q:Int)) rfl (by kernel_rfl) (by kernel_rfl) (by kernel_rfl) (by kernel_rfl) (fun _ _ _ h=>h) ⟨by rfl,fun w hSw=>⟨153,#[.int .u32 (L:Int)],?h2,HZ.out w hSw.2⟩⟩ (by assumption) ?r2
   case h2=>go_simp
   (try simp only[pq]);refine wpAnyW_take (i:=3) (oi:=⟨some 18,_,_,_,_,_⟩) (v:=_) rfl (by kernel_rfl) (by kernel_rfl) (by kernel_rfl) (by kernel_rfl) (fun _ _ _ h=>h) (yieldsIf_load_row (by rfl) 186 _ rfl wr.heap.size rfl (plc x) 186 (0,0) _ (fun w hw=>hw.1) Tryz.underlying186 rfl pl_size) (by assumption) ?_;(try simp only[pq]);obtain⟨fn,tmps,assign,body,hy,hR⟩:=HY.out w5.drew (HJA.out _ _ _ HJS.out HB6.out);unfold encG at hy;(try dsimp only at hy);refine wpAnyW_last (i:=4) (o:=⟨some 19,_,_,_,_,_⟩) (by kernel_rfl) (by decide) rfl (fun K hK=> ?_);rw[if_pos (by rfl)];go_simp;refine hR.mono ?_;rintro e W3 (⟨rfl,hJ3,hk3⟩|⟨rfl,hJx3⟩)
   ·refine hK.out _ _ ?_
    clear hK K hR hy;(try simp only[pq]);refine wpAnyW_last (i:=5) (o:=⟨some 20,_,_,_,_,_⟩) (by kernel_rfl) (by decide) rfl (fun K hK=> ?_);rw[if_pos (by rfl)];go_simp;refine hK.out _ _ ?_;clear hK K;(try simp only[pq]);refine wpAnyW_done (by kernel_rfl) ?_ _;gi_wp2
    go_roundw
    case rel=>exact⟨k+1,q+1,by have:=HLT.out;omega,HCQ.out,by simp,by rw[HLE'.out],by rw[<-HTK.out];exact hJ3,(HNX.out.trans (HB6.out.mono (Nat.le_trans HNW.out HNX.out.size))).trans hk3⟩
    case measure=>have:=HLT.out;simp[intOf];omega
   ·refine hK.out _ _ ?_
    clear hK K hR hy;(try simp only[pq]);refine wpAnyW_last (i:=5) (o:=⟨some 20,_,_,_,_,_⟩) (by kernel_rfl) (by decide) rfl (fun K hK=> ?_);rw[if_pos (by rfl)];go_simp;refine hK.out _ _ ?_;clear hK K;(try simp only[pq]);refine wpAnyW_done (by kernel_rfl) ?_ _;gi_wp2
    refine bodyPost_ret (results_none rfl _ _ _) rfl ?_;exact⟨⟨_,rfl⟩,.inr ⟨_,⟨k+1,by have:=HLT.out;rw[<-HLEN.out];omega,HTK.out⟩,hJx3⟩⟩
  ·obtain rfl:k=(lisG R).length:=by omega
   gi_wp2
   go_end0;exact⟨⟨_,rfl⟩,.inl ⟨_,rfl,by rwa[HLEN.out,List.take_length]at hJs⟩⟩
theorem pr_all1_nil_in (n:Nat) (l Bs:Nat) (J:List (Nat×Pl)->World->Prop) (b:Nat) (W:World) (hB0:W.cell? ⟨Bs,0,none⟩=some (.int .u32 (b:Nat))) (hB1:W.cell? ⟨Bs,1,none⟩=some (.slice none 0 0)) (h0:J [] W):
  CallsIn Fence.wide n Tryz.prog 152 #[.func (.yield l) #[] #[],.pointer (some ⟨Bs,0,none⟩)] W fun e W'=>(∃v,e=.returned v)/\J [] W':=by
 refine callsIn_of_wp Tryz.func152 rfl trivial ?_ rfl;simp only[Tryz.ntmps152,List.size_toArray,List.length_cons,List.length_nil,Nat.reduceAdd,Nat.reduceSub,Array.replicate_succ,Array.replicate_zero,List.push_toArray,List.append_toArray,List.nil_append,List.cons_append];gi_wp2
 gi_loopw [11] (fun i wr=>i=.int .i64 0/\J [] wr) (fun _ _=>0)
 case atStart=>exact⟨rfl,h0⟩
 case round=>
  obtain⟨rfl,hJs⟩:=hrel;gi_wp2
  go_end0;exact⟨⟨_,rfl⟩,hJs⟩
theorem pr_All_in (n:Nat) (b:Int) (v:Value) (w:World):
  CallsIn Fence.wide n Tryz.prog 138 #[.agg #[.int .u32 b,v]] w fun e w'=>e=.returned (.func (.func 152) #[] #[.pointer (some ⟨w.heap.size,0,none⟩)])/\w'=w.alloc (.cells #[.int .u32 b,v] 93):=by
 refine callsIn_of_wp Tryz.func138 rfl trivial ?_ rfl;simp only[Tryz.ntmps138,List.size_toArray,List.length_cons,List.length_nil,Nat.reduceAdd,Nat.reduceSub,Array.replicate_succ,Array.replicate_zero,List.push_toArray,List.append_toArray,List.nil_append,List.cons_append];gi_wp2
 go_ret;exact⟨rfl,rfl⟩
theorem pr_all_stops (n:Nat) (hn:1<=n) (Bs n₀:Nat) (R:Rg Pl) (v:Value) (w:World) (hBs:Bs<w.heap.size) (hn₀:n₀<=w.heap.size) (htn:1<n₀) (hB0:w.cell? ⟨Bs,0,none⟩=some (.int .u32 (bitsG R 32:Nat)))
  (hB1:w.cell? ⟨Bs,1,none⟩=some v) (hL:PlsIn n₀ w v (lisG R)) (hT:Tab6 w):
  SeqStopsK Fence.wide n Tryz.prog 152 #[.pointer (some ⟨Bs,0,none⟩)] encG (Below n₀) (fun ys=>ys=allG R) (fun pre=>∃k,k<=(allG R).length/\pre=(allG R).take k) (allG R).length w:=fun l J Jx W hW hJ _ hY h0=>by
 have h0':=(hW.cell (p:=⟨Bs,0,none⟩) hBs).trans hB0;have h1':=(hW.cell (p:=⟨Bs,1,none⟩) hBs).trans hB1;rcases hL.below (hW.mono hn₀)with⟨he,rfl⟩|⟨_,g,c,rfl,hg,hc⟩
 ·have ha:allG R=[]:=List.eq_nil_of_length_eq_zero (by rw[all_lenG,<-lisG_len,he];rfl)
  exact(pr_all1_nil_in n l Bs J _ W h0' h1' h0).mono fun e W' ⟨hr,hj⟩=>⟨hr,.inl ⟨_,ha.symm,hj⟩⟩
 ·exact pr_all1_in n hn l Bs n₀ R g c hg htn J Jx (fun s A B h hb=>hJ s A B none h ⟨hb.os,hb.tape,hb.output,hb.size,fun k hk _=>hb.block k hk⟩ (fun r e=>by cases e)) (fun pre x W hj hl _=>hY pre x W hj hl) W (Nat.le_trans hn₀ hW.size) h0' h1' hc (hT.below hW) h0
theorem pr_all_stopsS (n:Nat) (hn:1<=n) (Bs n₀:Nat) (R:Rg Pl) (v:Value) (w:World) (hBs:Bs<w.heap.size) (hn₀:n₀<=w.heap.size) (htn:1<n₀) (hB0:w.cell? ⟨Bs,0,none⟩=some (.int .u32 (bitsG R 32:Nat)))
  (hB1:w.cell? ⟨Bs,1,none⟩=some v) (hL:PlsIn n₀ w v (lisG R)) (hT:Tab6 w):
  SeqStopsK (α:={x:Nat×Pl//x∈allG R}) Fence.wide n Tryz.prog 152 #[.pointer (some ⟨Bs,0,none⟩)] (fun x=>encG x.1) (Below n₀) (fun ys=>ys.map (·.1)=allG R) (fun pre=>∃k,k<=(allG R).length/\pre.map (·.1)=(allG R).take k) (allG R).length w:=fun l J Jx W hW hJ _ hY h0=>by
 have h0':=(hW.cell (p:=⟨Bs,0,none⟩) hBs).trans hB0;have h1':=(hW.cell (p:=⟨Bs,1,none⟩) hBs).trans hB1;rcases hL.below (hW.mono hn₀)with⟨he,rfl⟩|⟨_,g,c,rfl,hg,hc⟩
 ·have ha:allG R=[]:=List.eq_nil_of_length_eq_zero (by rw[all_lenG,<-lisG_len,he];rfl)
  exact(pr_all1_nil_in n l Bs (fun(pre:List (Nat×Pl)) W=>∃p':List {x:Nat×Pl//x∈allG R},p'.map (·.1)=pre/\J p' W) _ W h0' h1' ⟨[],rfl,h0⟩).mono fun e W' ⟨hr,p',e1,hj⟩=>⟨hr,.inl ⟨p',e1.trans ha.symm,hj⟩⟩
 ·refine(pr_all1_in n hn l Bs n₀ R g c hg htn (fun pre W=>∃p':List {x:Nat×Pl//x∈allG R},p'.map (·.1)=pre/\J p' W) (fun pre W=>∃p':List {x:Nat×Pl//x∈allG R},p'.map (·.1)=pre/\Jx p' W)
   (fun s A B ⟨p',e,h⟩ hb=>⟨p',e,hJ p' A B none h ⟨hb.os,hb.tape,hb.output,hb.size,fun k hk _=>hb.block k hk⟩ (fun r e=>by cases e)⟩) ?_ W (Nat.le_trans hn₀ hW.size) h0' h1' hc (hT.below hW) ⟨[],rfl,h0⟩).mono ?_
  ·rintro pre x V ⟨p',e,hj⟩ hl hx
   refine(hY p' ⟨x,hx⟩ V hj (by rw[<-e,List.length_map]at hl;exact hl)).mono ?_;rintro r V' (⟨h1,h2,h3⟩|⟨h1,h2⟩)
   ·exact .inl ⟨h1,⟨_,by rw[List.map_append,e];rfl,h2⟩,h3⟩
   ·exact .inr ⟨h1,_,by rw[List.map_append,e];rfl,h2⟩
  ·rintro e W' ⟨hr,⟨ys,e1,p',e2,hj⟩|⟨pre,hp,p',e2,hj⟩⟩
   ·exact⟨hr,.inl ⟨p',e2.trans e1,hj⟩⟩
   ·obtain⟨k,hk,e3⟩:=hp
    exact⟨hr,.inr ⟨p',⟨k,hk,e2.trans e3⟩,hj⟩⟩
end Go.Proofs.YtengibnpebfblaaGreatDoor
namespace Go.Proofs.YtengibnpebfblaaGreatDoor
open Go.RowKit Go.Shelf
attribute [local go_sem] Oper.semAt_some
abbrev PBox (V:World) (X:Nat) (p:Pl):Prop:=V.heap[X]? =some (.cells (plc p) 186 (0,0))
theorem row_only {V V':World} {X Y:Nat} {cs:Array Value} {T:TypeId} {fr:Nat×Nat} (h:V.heap[Y]? =some (.cells cs T fr)) (k:Only X V V') (hne:Y≠X):V'.heap[Y]? =some (.cells cs T fr):=k.other h hne
theorem only_keeps {X:Nat} {A B:World} {cs:Array Value} {T:TypeId} {fr:Nat×Nat} (h:Only X A B) (hX:A.heap[X]? =some (.cells cs T fr)):KeepsOthers A B:=
 ⟨Nat.le_of_eq h.size.symm,fun k o hk ho=>h.other hk (fun e=>by subst e;rw[hX]at hk;cases hk;cases ho)⟩
def firstG (R:Rg Pl):Int×Pl×Bool:=match allG R with
 |[]=>(0,(none,none),false)
 |p::_=>((p.1:Int),p.2,true)
theorem first_results (tmps:Array Value) (w:World) (X1 X2 X3:Nat) (i:Int) (p:Pl) (b:Bool) (h1:tmps.getD 2 undef=.pointer (some ⟨X1,0,none⟩)) (h2:tmps.getD 3 undef=.pointer (some ⟨X2,0,none⟩)) (h3:tmps.getD 4 undef=.pointer (some ⟨X3,0,none⟩))
  (c1:Boxed w X1 3 (.int .i64 i)) (c2:PBox w X2 p) (c3:Boxed w X3 4 (.bool b)):
  (results Tryz.f190 tmps).run Tryz.prog w=.ok (.tuple #[.int .i64 i,.agg (plc p),.bool b]) w:=by
 have l1:=c1.cell;have l3:=c3.cell;have l2:w.cell? ⟨X2,0,none⟩=some (pv p.1):=cell_in c2 rfl;have l4:w.cell? ⟨X2,1,none⟩=some (pv p.2):=cell_in c2 rfl;simp at h1 h2 h3;simp[results,Tryz.f190,go_sem,h1,h2,h3,l1,l2,l3,l4,plc]
theorem st_box_wp {o:Oper} {a:Act} {w:World} {K:Act->World->Prop} {Q:Exit->Act->World->Prop} (ty:TypeId) (x y:Operand) (ho:o.op=.store ty x y)
  (X:Nat) (v:Value) (hx:a.eval x=.pointer (some ⟨X,0,none⟩)) (hy:a.eval y=v) (h1:v.oneCell'=true) (T:TypeId) (u:Value) (hB:Boxed w X T u)
  (hi:(Tryz.prog.info? ty).map (·.size)=some 1)
  (h:∀w',Boxed w' X T v->Only X w w'->K (a.put o.dst undef) w'):o.wp Tryz.prog a w K Q:=by
 unfold Oper.wp execOp;simp only[ho,hx,hy,Instr.storeAt,Instr.sureAddr,Sem.run_bind,Sem.run_pure,Result.andThen_ok,run_storeVar_cell w X 0 T ty #[u] v hB (by simp) hi h1];exact h _ (setRow_heap w X _ _ _ _ hB) (only_setRow _ _ _)
theorem st_in {ops:Array Oper} {rest:List Oper} {o:Oper} {a:Act} {w:World} {Q:Exit->Act->World->Prop} {n l:Nat} (hgd:o.guard=none) (ty:TypeId) (x y:Operand) (ho:o.op=.store ty x y)
  (X:Nat) (c':Array Value) (hx:a.eval x=.pointer (some ⟨X,0,none⟩)) (hy:a.eval y=.agg c') (T:TypeId) (c:Array Value) (hB:w.heap[X]? =some (.cells c T (0,0)))
  (hi:(Tryz.prog.info? ty).map (·.size)=some c'.size) (hs:c.size=c'.size) (h1:c'.all (·.oneCell')=true)
  (h:∀w',w'.heap[X]? =some (.cells c' T (0,0))->Only X w w'->wpListIn (Fence.wide.inRound l) n Tryz.prog ops Q rest (a.put o.dst undef) w'):wpListIn (Fence.wide.inRound l) n Tryz.prog ops Q (o::rest) a w:=
 list_in hgd (fun c' hc=>by rw[ho]at hc;cases hc) fun _ hK=>st_agg_wp ty x y ho X c' hx hy T c hB hi hs h1 fun w' h1 h2=>hK _ _ (h w' h1 h2)
theorem int_sz:(Tryz.prog.info? 3).map (·.size)=some 1:=by kernel_rfl
theorem bool_sz:(Tryz.prog.info? 4).map (·.size)=some 1:=by kernel_rfl
theorem pr_First {S:Nat->Prop} (w:World) (R:Rg Pl) (c:Array Value) (h:AtR S w R c) (hT:Tab6 w):Calls Tryz.prog 190 #[.agg c] w fun e W'=>e=.returned (.tuple #[.int .i64 (firstG R).1,.agg (plc (firstG R).2.1),.bool (firstG R).2.2])/\Below w.heap.size w W':=by
 obtain⟨v,rfl,h2⟩:=h;have HPL:=iH (pls_in h2.old (n₀:=w.heap.size) (fun g hg=>hg.2));obtain⟨a,n,rfl,_⟩:=h2.shape;have HTT:=iH hT;refine(callsIn_wide (n:=5)).1 ?_;refine callsIn_of_wp_marks Tryz.func190 rfl trivial ?_ rfl;simp only[Tryz.ntmps190,List.size_toArray,List.length_cons,List.length_nil,Nat.reduceAdd,Nat.reduceSub,Array.replicate_succ,Array.replicate_zero,List.push_toArray,List.append_toArray,List.nil_append,List.cons_append];have htl:1<w.heap.size:=World.block_lt_of_cell? w _ (hT 0 (by decide));clear h2 hT;gi_wp2_with (refine⟨trivial,?_⟩;gi_at_call 138;refine(pr_All_in _ _ _ _).mono ?_;rintro e w' ⟨rfl,rfl⟩)
 obtain⟨W1,hW1⟩:∃W1,w.alloc (.cells #[.int .u32 (bitsG R 32:Nat),.slice a (cntG R 32) n] 93)=W1:=⟨_,rfl⟩
 have hs1:W1.heap.size=w.heap.size+1:=by rw[<-hW1];simp
 have hb1:Below w.heap.size w W1:=by rw[<-hW1];exact Below.newly' _ _
 rw[hW1];obtain⟨W2,hW2⟩:∃W2,W1.alloc (.cells #[.int .i64 0] 3)=W2:=⟨_,rfl⟩
 have hs2:W2.heap.size=w.heap.size+2:=by rw[<-hW2];simp;omega
 have hx2:Boxed W2 (w.heap.size+1) 3 (.int .i64 0):=by rw[<-hs1,<-hW2];exact Boxed.new _ _ _
 have hb2:Below w.heap.size w W2:=by rw[<-hW2];exact hb1.alloc (by omega) _
 rw[hW2];obtain⟨W3,hW3⟩:∃W3,W2.alloc (.cells #[.pointer none,.pointer none] 186)=W3:=⟨_,rfl⟩
 have hs3:W3.heap.size=w.heap.size+3:=by rw[<-hW3];simp;omega
 have hp3:PBox W3 (w.heap.size+1+1) (none,none):=by
  have h:=heap_alloc_last W2 (.cells #[.pointer none,.pointer none] 186);rw[hW3,hs2]at h;exact h
 have hx3:Boxed W3 (w.heap.size+1) 3 (.int .i64 0):=by rw[<-hW3];exact hx2.alloc _
 have hb3:Below w.heap.size w W3:=by rw[<-hW3];exact hb2.alloc (by omega) _
 rw[hW3];obtain⟨W4,hW4⟩:∃W4,W3.alloc (.cells #[.bool false] 4)=W4:=⟨_,rfl⟩
 have hs4:W4.heap.size=w.heap.size+4:=by rw[<-hW4];simp;omega
 have hp4:PBox W4 (w.heap.size+1+1) (none,none):=by rw[<-hW4];exact((Below.newly' _ _).block _ (by omega)).trans hp3
 have hx4:Boxed W4 (w.heap.size+1) 3 (.int .i64 0):=by rw[<-hW4];exact hx3.alloc _
 have hy4:Boxed W4 (w.heap.size+1+1+1) 4 (.bool false):=by rw[show w.heap.size+1+1+1=W3.heap.size by omega,<-hW4];exact Boxed.new _ _ _
 have hb4:Below w.heap.size w W4:=by rw[<-hW4];exact hb3.alloc (by omega) _
 rw[hW4];obtain⟨W0,hW0⟩:∃W0,W4.alloc (.cells #[.int .u32 (bitsG R 32:Nat),.slice a (cntG R 32) n] 93)=W0:=⟨_,rfl⟩
 have hs0:W0.heap.size=w.heap.size+5:=by rw[<-hW0];simp;omega
 have hp0:PBox W0 (w.heap.size+1+1) (none,none):=by rw[<-hW0];exact((Below.newly' _ _).block _ (by omega)).trans hp4
 have hx0:Boxed W0 (w.heap.size+1) 3 (.int .i64 0):=by rw[<-hW0];exact hx4.alloc _
 have hy0:Boxed W0 (w.heap.size+1+1+1) 4 (.bool false):=by rw[<-hW0];exact hy4.alloc _
 have hb0:Below w.heap.size w W0:=by rw[<-hW0];exact hb4.alloc (by omega) _
 have hr0:W0.heap[w.heap.size+1+1+1+1]? =some (.cells #[.int .u32 (bitsG R 32:Nat),.slice a (cntG R 32) n] 93 (0,0)):=by
  rw[show w.heap.size+1+1+1+1=W4.heap.size by omega,<-hW0];exact heap_alloc_last _ _
 rw[hW0];clear hW0 hW1 hW2 hW3 hW4 hs1 hs2 hs3 hs4 hb1 hb2 hb3 hb4 hx2 hx3 hx4 hp3 hp4 hy4;refine wpIn_rangeFunc_ownH (F:=Fence.wide) rfl (by omega) (gf:=152) (lb:=#[.pointer (some ⟨w.heap.size+1+1+1+1,0,none⟩)]) rfl trivial (enters_of Tryz.func152 (by kernel_rfl) rfl)
  (pr_all_stops 4 (by omega) (w.heap.size+1+1+1+1) w.heap.size R _ W0 (by omega) (by omega) htl (cell_in hr0 rfl) (cell_in hr0 rfl) (HPL.out.below hb0) (HTT.out.below hb0)) belowK_t (belowK_b (by omega)) (Below.refl _ _) (fun _=>rfl)
  (fun pre V=>(pre=[]/\Boxed V (w.heap.size+1) 3 (.int .i64 0)/\PBox V (w.heap.size+1+1) (none,none)/\Boxed V (w.heap.size+1+1+1) 4 (.bool false))/\Below w.heap.size w V)
  (fun k pre V=>(k=.ret/\∃x:Nat×Pl,pre=[x]/\Boxed V (w.heap.size+1) 3 (.int .i64 (x.1:Int))/\PBox V (w.heap.size+1+1) x.2/\Boxed V (w.heap.size+1+1+1) 4 (.bool true))/\Below w.heap.size w V)
  (OwnFrom.and (Own.from (fun s A B row hs hg hr=>⟨hs.1,bx_kept hs.2.1 hg hr,row_kept hs.2.2.1 hg hr,bx_kept hs.2.2.2 hg hr⟩) _) (ownFrom_below (Nat.le_refl _) (by omega)))
  (fun k=>OwnFrom.and (Own.from (fun s A B row hs hg hr=>by obtain⟨hc,x,e1,e2,e3,e4⟩:=hs;exact⟨hc,x,e1,bx_kept e2 hg hr,row_kept e3 hg hr,bx_kept e4 hg hr⟩) _) (ownFrom_below (Nat.le_refl _) (by omega)))
  ⟨⟨rfl,hx0,hp0,hy0⟩,hb0⟩
  (fun x a' V=>∃Bx,w.heap.size+4<=Bx/\PBox V Bx x.2/\a'={tmps:=#[.agg #[.int .u32 (bitsG R 32:Nat),.slice a (cntG R 32) n],.pointer (some ⟨w.heap.size,0,none⟩),.pointer (some ⟨w.heap.size+1,0,none⟩),.pointer (some ⟨w.heap.size+1+1,0,none⟩),.pointer (some ⟨w.heap.size+1+1+1,0,none⟩),.int .i64 (x.1:Int),.pointer (some ⟨Bx,0,none⟩),undef,.agg #[.int .u32 (bitsG R 32:Nat),.slice a (cntG R 32) n],.func (.func 152) #[] #[.pointer (some ⟨w.heap.size+1+1+1+1,0,none⟩)],.int .i64 (x.1:Int),.agg (plc x.2),undef,undef,undef],defers:=[]})
  (fun x a'=>Own.from (fun s A B row hs hg hr=>by obtain⟨Bx,h1,h2,h3⟩:=hs;exact⟨Bx,h1,row_kept h2 hg hr,h3⟩) _)
  ?assign ?body ?done ?stop
 case assign=>
  rintro l pre x V K ⟨⟨rfl,h2,h3,h4⟩,hB⟩ hK;have hVs:=hb0.size;gi_wp2_with (refine st_in rfl 186 _ _ rfl V.heap.size (plc x.2) rfl rfl 186 (plc (none,none)) (heap_alloc_last _ _) pl_size rfl (plc_one x.2) ?_;intro w5 h5 k5;have hb5:Below V.heap.size V w5:=(Below.newly' _ _).trans (k5.below (Nat.le_refl _)))
  exact hK _ _ (((KeepsOthers.alloc V _).trans (only_keeps k5 (heap_alloc_last _ _))).from _) (hb5.mono hB.size) ⟨⟨by trivial,(hb5.block _ h2.lt).trans h2,kW hb5 h3,(hb5.block _ h4.lt).trans h4⟩,tW hB hb5⟩ ⟨V.heap.size,by have:=h4.lt;omega,h5,rfl⟩
 case body=>
  rintro l pre x a' V hl ⟨r,hr⟩ ⟨⟨rfl,h2,h3,h4⟩,hB⟩ ⟨Bx,hBx,bX,rfl⟩ hlt;have H2:=iH h2;have H3:=iH h3;have H4:=iH h4;have HX:=iH bX;have HBV:=iH hB;clear h2 h3 h4 bX hB hx0 hp0 hy0 hr0 hb0 hr;gi_wp2
  refine region_T_in (S:=(fun V=>PBox V Bx x.2)) [3,4] (by kernel_rfl) (by kernel_rfl) (fun⟨_,_,h⟩=>h) (by first|exact HX.out|exact HX6.out) (fun hHeld=> ?_);refine tkA 0 12 (h:=?_);refine tyA 1 13 (hy:=yieldsIf_load_row (by rfl) 186 _ rfl Bx rfl (plc x.2) 186 (0,0) _ (fun w hw=>hw) Tryz.underlying186 rfl (by exact pl_size)) (h:=?_);(try simp only[pq]);refine tkO 2 none (h:=fun K hK=> ?_);rw[if_pos (by rfl)];refine st_box_wp 3 _ _ rfl (w.heap.size+1) (.int .i64 (x.1:Int)) rfl rfl rfl 3 _ H2.out int_sz ?_;intro w6 h6 k6;have G1:=iH h6;have G2:=iH (row_only (V:=V.drew) H3.out k6 (by omega));have G3:Hid (Boxed w6 (w.heap.size+1+1+1) 4 (.bool false)):=row_only (V:=V.drew) H4.out k6 (by omega);have HX6:=iH (row_only (V:=V.drew) HX.out k6 (by omega));have HB6:=iH ((Below.drewMany HBV.out 1).trans (k6.below (B:=w.heap.size) (by omega)));have HK6:=iH ((keeps_below (drawn_below V)).trans (only_keeps (A:=V.drew) k6 H2.out));clear h6 k6;refine hK.out _ _ (by first|exact HX.out|exact HX6.out) (fun hHeld=> ?_);clear hK K;(try simp only[pq]);refine tkU 3 none (h:=fun K hK=> ?_);rw[if_pos (by rfl)];refine st_agg_wp 186 _ _ rfl (w.heap.size+1+1) (plc x.2) rfl rfl 186 _ G2.out pl_size rfl (plc_one x.2) ?_;intro w7 h7 k7;have G4:=iH h7;have G5:Hid (Boxed w7 (w.heap.size+1) 3 (.int .i64 (x.1:Int))):=row_only G1.out k7 (by omega);have G6:Hid (Boxed w7 (w.heap.size+1+1+1) 4 (.bool false)):=row_only G3.out k7 (by omega);have HB7:=iH (HB6.out.trans (k7.below (B:=w.heap.size) (by omega)));have HK7:=iH (HK6.out.trans (only_keeps k7 G2.out));clear h7 k7;refine hK.out _ _ ?_;clear hK K;(try simp only[pq]);refine tkU 4 none (h:=fun K hK=> ?_);rw[if_pos (by rfl)];refine st_box_wp 4 _ _ rfl (w.heap.size+1+1+1) (.bool true) rfl rfl rfl 4 _ G6.out bool_sz ?_;intro w8 h8 k8;refine hK.out _ _ ?_;clear hK K;(try simp only[pq]);refine wpAnyT_done (by kernel_rfl) ?_ _;gi_wp2
  exact⟨(HK7.out.trans (only_keeps k8 G6.out)).from _,⟨rfl,x,rfl,row_only G5.out k8 (by omega),row_only G4.out k8 (by omega),h8⟩,HB7.out.trans (k8.below (B:=w.heap.size) (by omega))⟩
 case done=>
  rintro D ys V hD rfl ⟨⟨hne,h2,h3,h4⟩,hB⟩ hK;have H2:=iH h2;have H3:=iH h3;have H4:=iH h4;have HBV:=iH hB;have HKD:=iH hK;have HDD:=iH hD;clear h2 h3 h4 hB hK hx0 hp0 hy0 hr0 hb0 hD;gi_wp2
  refine wpIn_wide.2 ?_;refine wp_region_noPanic ?_;have HVL:Hid (w.heap.size+1+1+1<V.heap.size):=H4.out.lt;obtain⟨Vd,hVd⟩:∃Vd,(V.alloc (.cells #[.pointer none,.pointer none] 186)).drew=Vd:=⟨_,rfl⟩
  have hbd:Below V.heap.size V Vd:=by rw[<-hVd];exact Below.drewMany (Below.newly' V _) 1
  have HXv:Hid (PBox Vd V.heap.size (none,none)):=by show _=_;rw[<-hVd];exact heap_alloc_last V _
  have H2v:Hid (Boxed Vd (w.heap.size+1) 3 (.int .i64 0)):=(hbd.block _ H2.out.lt).trans H2.out;have H3v:Hid (PBox Vd (w.heap.size+1+1) (none,none)):=kW hbd H3.out;have H4v:Hid (Boxed Vd (w.heap.size+1+1+1) 4 (.bool false)):=(hbd.block _ H4.out.lt).trans H4.out;have HBd:=iH (tW HBV.out hbd);have HKd:=iH (keeps_below hbd);clear hbd;refine wp_region_T (S:=(fun V'=>PBox V' V.heap.size (none,none))) [2,3] (by kernel_rfl) (by first|exact(hVd▸HXv.out)|exact HX6.out) (fun hHeld=> ?_);rw[hVd];refine tyA 0 14 (hy:=yieldsIf_load_row (by rfl) 186 _ rfl V.heap.size rfl (plc (none,none)) 186 (0,0) _ (fun w hw=>hw) Tryz.underlying186 rfl (by exact pl_size)) (h:=?_);(try simp only[pq]);refine tkO 1 none (h:=fun K hK=> ?_);rw[if_pos (by rfl)];refine st_box_wp 3 _ _ rfl (w.heap.size+1) (.int .i64 0) rfl rfl rfl 3 _ H2v.out int_sz ?_;intro w6 h6 k6;have G1:=iH h6;have G2:=iH (row_only (V:=Vd) H3v.out k6 (by omega));have G3:Hid (Boxed w6 (w.heap.size+1+1+1) 4 (.bool false)):=row_only (V:=Vd) H4v.out k6 (by omega);have HX6:=iH (row_only (V:=Vd) HXv.out k6 (by have:=HVL.out;omega));have HB6:=iH (HBd.out.trans (k6.below (B:=w.heap.size) (by omega)));have HK6:=iH (HKd.out.trans (only_keeps (A:=Vd) k6 H2v.out));clear h6 k6;refine hK.out _ _ (by first|exact(hVd▸HXv.out)|exact HX6.out) (fun hHeld=> ?_);clear hK K;(try simp only[pq]);refine tkU 2 none (h:=fun K hK=> ?_);rw[if_pos (by rfl)];refine st_agg_wp 186 _ _ rfl (w.heap.size+1+1) (plc (none,none)) rfl rfl 186 _ G2.out pl_size rfl (plc_one (none,none)) ?_;intro w7 h7 k7;have G4:=iH h7;have G5:Hid (Boxed w7 (w.heap.size+1) 3 (.int .i64 0)):=row_only G1.out k7 (by omega);have G6:Hid (Boxed w7 (w.heap.size+1+1+1) 4 (.bool false)):=row_only G3.out k7 (by omega);have HB7:=iH (HB6.out.trans (k7.below (B:=w.heap.size) (by omega)));have HK7:=iH (HK6.out.trans (only_keeps k7 G2.out));clear h7 k7;refine hK.out _ _ ?_;clear hK K;(try simp only[pq]);refine tkU 3 none (h:=fun K hK=> ?_);rw[if_pos (by rfl)]
  refine st_box_wp 4 _ _ rfl (w.heap.size+1+1+1) (.bool false) rfl rfl rfl 4 _ G6.out bool_sz ?_;intro w8 h8 k8;refine hK.out _ _ ?_;clear hK K;(try simp only[pq]);refine wpAnyT_done (by kernel_rfl) ?_ _;refine NoPanic.normal ?_;gi_wp2
  have hK':=(HK7.out.trans (only_keeps k8 G6.out)).same D _ HKD.out rfl;have q2:=bx_kept (row_only G5.out k8 (by omega)) (grownBy_putObj' _ D (.deferred none)) (fun r e=>by cases e;exact⟨_,hK',rfl⟩);have q3:=row_kept (row_only G4.out k8 (by omega)) (grownBy_putObj' _ D (.deferred none)) (fun r e=>by cases e;exact⟨_,hK',rfl⟩);have q4:=bx_kept h8 (grownBy_putObj' _ D (.deferred none)) (fun r e=>by cases e;exact⟨_,hK',rfl⟩);have hf:firstG R=(0,(none,none),false):=by unfold firstG;rw[hne]
  refine⟨by simp,.inl ⟨_,_,rfl,run_takeDeferred hK',?_⟩⟩;refine⟨.tuple #[.int .i64 0,.agg (plc (none,none)),.bool false],first_results _ _ _ _ _ _ _ _ rfl rfl rfl q2 q3 q4,by rw[hf],(HB7.out.trans (k8.below (B:=w.heap.size) (by omega))).trans (belowK_b (w:=w) (Nat.le_refl _) _ D _ _ (by have:=HDD.out;omega) hK' rfl rfl)⟩
 case stop=>
  rintro D k pre V hD ⟨m,hm,rfl⟩ ⟨⟨rfl,x,e1,e2,e3,e4⟩,hB⟩ hK;gi_wp2
  have q2:=bx_kept e2 (grownBy_putObj' _ D (.deferred none)) (fun r e=>by cases e;exact⟨_,hK,rfl⟩);have q3:=row_kept e3 (grownBy_putObj' _ D (.deferred none)) (fun r e=>by cases e;exact⟨_,hK,rfl⟩);have q4:=bx_kept e4 (grownBy_putObj' _ D (.deferred none)) (fun r e=>by cases e;exact⟨_,hK,rfl⟩);have hf:firstG R=((x.1:Int),x.2,true):=by
   unfold firstG;cases hr:allG R with
   |nil=>rw[hr]at e1;simp at e1
   |cons p t=>
    rw[hr]at e1;cases m with
    |zero=>simp at e1
    |succ m=>
     rw[List.take_succ_cons]at e1;obtain rfl:p=x:=(List.cons.inj e1).1;rfl
  refine⟨by simp,.inl ⟨_,_,rfl,run_takeDeferred hK,?_⟩⟩;refine⟨.tuple #[.int .i64 (x.1:Int),.agg (plc x.2),.bool true],first_results _ _ _ _ _ _ _ _ rfl rfl rfl q2 q3 q4,by rw[hf],hB.trans (belowK_b (w:=w) (Nat.le_refl _) _ D _ _ (by omega) hK rfl rfl)⟩
end Go.Proofs.YtengibnpebfblaaGreatDoor
