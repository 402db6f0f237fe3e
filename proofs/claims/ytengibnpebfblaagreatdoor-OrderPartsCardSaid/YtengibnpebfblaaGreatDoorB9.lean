import Derived.Test.YtengibnpebfblaaGreatDoorB5
set_option maxRecDepth 1000000
set_option maxHeartbeats 8000000
set_option linter.unusedSimpArgs false
namespace Go.Proofs.YtengibnpebfblaaGreatDoor
open Go.RowKit
section
variable {P : Program}
theorem run_copy_full (w:World) (dT sT ty elem:TypeId) (g m s:Nat) (a:Addr) (n sCap:Nat) (cur:Array Value) (t:TypeId) (cs:List Value)
  (hu:P.underlying dT=some (.slice elem)) (hs:(P.info? elem).map (·.size)=some s)
  (hg:w.heap[g]? =some (.cells cur t (0,0))) (hle:m<=n) (hn:cs.length=m*s)
  (hsrc:∀j v,cs[j]? =some v->w.cell? (a.add j)=some v) (hfit:cur.size=m*s) (h1:∀v∈cs,v.oneCell'=true):
  (Builtin.copy_ #[dT,sT] ty #[.slice (some ⟨g,0,none⟩) m m,.slice (some a) n sCap]).run P w=.ok (goInt m) (w.setRow g cs.toArray):=by
 have hl:=run_loadCells_list (P:=P) w a cs hsrc;have hst:=run_storeCells_at P g 0 t cs 0 cur w hg (by omega) h1;have hmin:Nat.min n m=m:=Nat.min_eq_right hle;have e:(cur.toList.take 0++cs++cur.toList.drop (0+cs.length)).toArray=cs.toArray:=by
  rw[List.take_zero,List.nil_append,List.drop_of_length_le (by rw[Array.length_toList];omega),List.append_nil]
 cases hq:P.info? elem with
 |none=>simp[hq]at hs
 |some i=>
  have hi:i.size=s:=by simpa[hq]using hs
  rw[hn]at hl;simp only[Nat.add_zero,e]at hst;simp[Builtin.copy_,run_underlying hu,Builtin.lenOf,Builtin.firstCells,sizeOf,typeInfo,hq,hi,hmin,hl,hst]
theorem wpList_copy_full {w:World} {S:Nat->Prop} {ops:Array Oper} {rest:List Oper} {o:Oper} {a:Act} {Q:Exit->Act->World->Prop} (hgd:o.guard=none) (d x:Operand) (dT sT:TypeId)
  (ho:o.op=.call {callee:=.builtin .copy,args:=#[d,x],argTypes:=#[dT,sT]}) (elem:TypeId) (hu:P.underlying dT=some (.slice elem)) (s:Nat) (hsz:(P.info? elem).map (·.size)=some s)
  (g m:Nat) (hd:a.eval d=.slice (some ⟨g,0,none⟩) m m) {v:Value} (hv:a.eval x=v) {cs:List Value} {n:Nat} (hc:CutAt S w s v cs n) (hm:m<=n) (h0:0<m)
  (T:TypeId) (cur:Array Value) (hg:w.heap[g]? =some (.cells cur T (0,0))) (hfit:cur.size=m*s) (h1:∀u∈cs,u.oneCell'=true)
  (h:∀w',w'.heap[g]? =some (.cells (cs.take (m*s)).toArray T (0,0))->Only g w w'->wpList P ops Q rest (a.put o.dst (goInt m)) w'):wpList P ops Q (o::rest) a w:=by
 obtain⟨g',o',c',rfl,h2,h3,h4,h5⟩:=hc.pos (by omega);have hl:=hc.len;have hrun:=run_copy_full (P:=P) w dT sT o.type elem g m s ⟨g',o',none⟩ n c' cur T (cs.take (m*s)) hu hsz hg hm (by rw[List.length_take,hl,Nat.min_eq_left (Nat.mul_le_mul_right _ hm)])
  (fun j u hu=>by
   rw[add_at];refine h5 j u ?_;rw[List.getElem?_take]at hu;split at hu
   ·exact hu
   ·cases hu) hfit (fun u hu=>h1 u (List.mem_of_mem_take hu))
 refine wpList_plain hgd fun K hK=> ?_
 unfold Oper.wp;simp[execOp,ho,resolve,invoke,builtin,hd,hv,hrun,Result.andThen];exact hK _ _ (h _ (setRow_heap w g _ _ _ _ hg) (only_setRow _ _ _))
end
def PartsAt {α:Type} (enc:α->List Value) (S:Nat->Prop) (W:World) (t:TypeId) (s:Nat) (v:Value) (pl:List (Value×List α)):Prop:=
 ∃(a:Option Addr) (g cap:Nat),v=.slice a pl.length cap/\(0<pl.length->a=some ⟨g,0,none⟩)/\(∀k (hk:k<pl.length),W.cell? ⟨g,k,none⟩=some pl[k].1)/\∀p∈pl,HeadAt S W t s p.1 (en enc p.2) p.2.length
theorem tv_size:∀w,(sizeOf (Tryz.prog.elem 52)).run Tryz.prog w=.ok 4 w:=fun w=>by
 have e:Tryz.prog.elem 52=35:=by kernel_rfl
 rw[e];obtain⟨i,hi,_,h1,_⟩:=info_parts val_info;simp[sizeOf,typeInfo,hi,h1]
theorem tn_size:∀w,(sizeOf (Tryz.prog.elem 84)).run Tryz.prog w=.ok 4 w:=fun w=>by
 have e:Tryz.prog.elem 84=86:=by kernel_rfl
 rw[e];obtain⟨i,hi,_,h1,_⟩:=info_parts rnode_info;simp[sizeOf,typeInfo,hi,h1]
theorem tv_sl:Tryz.prog.underlying 52=some (.slice (Tryz.prog.elem 52)):=by kernel_rfl
theorem tn_sl:Tryz.prog.underlying 84=some (.slice (Tryz.prog.elem 84)):=by kernel_rfl
theorem part_head {α:Type} {enc:α->List Value} {s:Nat} (henc:∀x,(enc x).length=s) {W:World} {T:TypeId} {g m B:Nat} {xs:List α} (hB:B<=g) (hm:m<=xs.length) (h0:0<m)
  (hg:W.heap[g]? =some (.cells ((en enc xs).take (m*s)).toArray T (0,0))):HeadAt (fun g=>B<=g) W T s (.slice (some ⟨g,0,none⟩) m m) (en enc (xs.take m)) m:=by
 rw[en_take henc]at hg;refine⟨by rw[en_len henc,List.length_take,Nat.min_eq_left hm],.inr ⟨h0,g,m,_,(0,0),rfl,Nat.le_refl _,hB,hg,fun j u hu=>by simpa using hu⟩⟩
theorem sp_val {α:Type} {enc:α->List Value} (henc:∀x,(enc x).length=4) (hone:∀x,∀u∈enc x,u.oneCell'=true) (w:World) {S:Nat->Prop} (B:Nat) (ls:List (Value×List α))
  (hcells:∀k (hk:k<ls.length),w.cell? ⟨B,k,none⟩=some ls[k].1) (hcut:∀p∈ls,CutAt S w 4 p.1 (en enc p.2) p.2.length) (xs:List α) (hxs:catE ls ls.length=xs) (hN:xs.length<=100000) (hl:ls.length<=1000):
  Calls Tryz.prog 127 #[.slice (some ⟨B,0,none⟩) ls.length ls.length] w fun e w'=>∃v,e=.returned v/\∃pl,PartsAt enc (fun g=>w.heap.size<=g) w' 35 4 v pl/\pl.map (·.2)=chunks (cntN xs.length) xs/\Below w.heap.size w w':=by
 obtain⟨i,hi,hz,h1,h2⟩:=info_parts val_info;have HCC:=iH (cc_val hone w B ls hcells hcut (by rw[hxs];exact hN) hl);rw[hxs]at HCC;have HI:=iH (And.intro hi (And.intro hz (And.intro h1 h2)));obtain⟨N,hN'⟩:∃N,N=xs.length:=⟨_,rfl⟩
 have HN:=iH hN;rw[<-hN']at hN HCC;have hN6:(N:Int)<=100000:=by omega
 have HCNT:Hid (((N:Int)+16-1)/16=(cntN N:Nat)):=by show _=_;unfold cntN;omega
 have HNN:=iH hN';clear hi hz h1 h2 hcells hcut hxs hN hN';go_enter Tryz.func127,Tryz.ntmps127;go_wp2_with (go_at_call 142;refine HCC.out.mono ?_;rintro e w1 ⟨v1,rfl,hc1,hb1⟩;obtain⟨a1,c1,rfl,_⟩:=hc1.shape;have HC1:=iH hc1;have HB1:=iH hb1;clear hc1 hb1)
 go_loopw [3,4,5] (fun all parts left wr=>∃(c:Nat) (rest:List α) (a:Option Addr) (cp:Nat) (done:List (Value×List α)),left=.int .i64 (c:Int)/\all=.slice a rest.length cp/\Hid ((c=0->rest=[])/\1*c<=rest.length/\rest.length<=N/\done.length+c=cntN N/\done.map (·.2)++chunks c rest=chunks (cntN N) xs)/\
  Hid (CutAt (fun g=>g<w1.heap.size) wr 4 (.slice a rest.length cp) (en enc rest) rest.length)/\Hid (RowsOwn w1.heap.size 52 1 parts (done.map fun p=> #[p.1]) wr)/\Hid (∀p∈done,HeadAt (fun g=>w1.heap.size<=g) wr 35 4 p.1 (en enc p.2) p.2.length)/\Hid (Below w.heap.size w wr)) (fun _ _ left _=>(intOf left).toNat)
 case atStart=>
  refine⟨cntN N,xs,a1,c1,[],by rw[HCNT.out],by rw[HNN.out],⟨fun h=> ?_,?_,by rw[HNN.out];exact Nat.le_refl _,by simp,by simp⟩,?_,?_,iH (fun p h=>by cases h),HB1⟩
  ·refine List.eq_nil_of_length_eq_zero ?_
   rw[<-HNN.out];unfold cntN at h;omega
  ·rw[<-HNN.out]
   unfold cntN;omega
  ·have h:=HC1.out.old.weak (S':=fun g=>g<w1.heap.size) (fun g hg=>hg.2)
   rw[HNN.out]at h;exact h
  ·exact⟨World.ownsRowF_nil _ _ _ _,Nat.le_refl _,fun c h=>by cases h⟩
 case round=>
  have HB1':Hid (w.heap.size<=w1.heap.size):=HB1.out.size;clear HC1 HCC HB1;obtain⟨c,rest,a,cp,done,rfl,rfl,HR,HC,HP,HD,HB⟩:=hrel;by_cases h0:c=0
  ·subst h0
   go_wp2_with fail
   go_ret;refine⟨_,rfl,done,?_,by have:=HR.out.2.2.2.2;rw[<-HNN.out];simpa[chunks]using this,HB.out⟩;rcases Nat.eq_zero_or_pos done.length with hd|hd
   ·obtain rfl:=List.eq_nil_of_length_eq_zero hd
    obtain⟨_,h2⟩:=HP.out.1;rcases h2 with⟨e,_⟩|⟨g,cap,cur,fz,e,_⟩
    ·exact⟨none,0,0,e,fun h=>absurd h (by simp),fun k hk=>absurd hk (by simp),fun p h=>by cases h⟩
    ·exact⟨some ⟨g,0,none⟩,g,cap,e,fun _=>rfl,fun k hk=>absurd hk (by simp),fun p h=>by cases h⟩
   ·obtain⟨g,cap,cur,fz,e,_⟩:=HP.out.at_ (by intro e;rw[List.map_eq_nil_iff]at e;rw[e]at hd;simp at hd)
    rw[List.length_map]at e;refine⟨some ⟨g,0,none⟩,g,cap,e,fun _=>rfl,fun k hk=> ?_,fun p hp=>(HD.out p hp).weak fun g hg=>Nat.le_trans HB1'.out hg⟩;have hr:=HP.out.read e (i:=k) (c:=#[done[k].1]) (by rw[List.getElem?_map,List.getElem?_eq_getElem hk];rfl);have:=hr 0 done[k].1 rfl;rwa[Nat.mul_one,Nat.add_zero]at this
  ·have hR:=HR.out
   have hc0:((c:Int)>0):=by omega
   have hc1:¬((c:Int)=0):=by omega
   obtain⟨c',hce⟩:∃c',c=c'+1:=⟨c-1,by omega⟩
   obtain⟨m,hm⟩:∃m,m=rest.length/(c'+1):=⟨_,rfl⟩
   rw[hce]at hR;have hm0:0<m:=by have:=(chunk_step hR.2.1).1;omega
   have hmle:m<=rest.length:=by rw[hm];exact Nat.div_le_self _ _
   have hq1:(rest.length:Int)/(c:Int)=(m:Int):=by rw[hm,hce];exact(Int.natCast_ediv _ _).symm
   have hm5:(m:Int)<=100000:=by omega
   have hcs:((c:Int)-1)=(c':Int):=by omega
   have hc5:(c:Int)<=100000:=by omega
   obtain⟨a3,c3,hc3,hr3⟩:=cut_l 52 tv_sl tv_size HC.out (lo:=m) hmle;rw[en_drop henc]at hc3;have HC3:=iH hc3;have HM:=iH (And.intro hm (And.intro hm0 hmle));have HRN:=iH hR;have hrl:(rest.length:Int)<=100000:=by omega
   have HW1:Hid (w1.heap.size<=wr.heap.size):=HP.out.2.1;have HCE:=iH hce;clear hm hm0 hmle hR hc3 h0 hce HR;go_wp2_with (first
    |(refine wpList_make_s _ rfl _ _ 52 rfl 35 i (.agg (celC zeroV)) 4 Tryz.underlying52 HI.out.1 HI.out.2.1 HI.out.2.2.1 .i64 .i64 m rfl rfl (by rw[HI.out.2.2.2];omega) (by omega) ?_)
    |(refine wpList_copy_full rfl _ _ 52 52 rfl 35 Tryz.underlying52 4 val_size wr.heap.size m rfl rfl (HC.out.later (Below.newly' _ _)) HM.out.2.2 HM.out.2.1 35 _ (heap_alloc_last _ _) (by simp[size_madeCells]) (en_one hone _) ?_;intro w4 h4 k4;have HG4:=iH h4;have HB4:Hid (Below wr.heap.size wr w4):=(Below.newly' _ _).trans (k4.below (Nat.le_refl _));clear h4 k4)
    |(refine rows_list rfl (z:=.slice none 0 0) (by_:=24) 179 52 _ _ rfl rfl ((HP.out.later HB4.out).later (Below.newly' _ _)) w4.heap.size rfl (heap_alloc_last w4 _) rfl (by simp[Value.oneCell']) Tryz.underlying179 (by kernel_rfl) rfl (by decide) (by rw[List.length_map];have:=HRN.out;have:=HN.out;have:=HNN.out;unfold cntN at*;omega) (by decide) ?_;intro v6 w6 hp6 hg6;have HP6:=iH hp6;have HG6:=iH hg6;clear hp6 hg6))
   go_roundw
   case rel=>
    have hm:=HM.out;have hR:=HRN.out;have hw1:=HW1.out;have hb5:Below wr.heap.size wr (w4.alloc (.cells #[.slice (some ⟨wr.heap.size,0,none⟩) m m] 52)):=Below.more HB4.out _;have hp5:RowsOwn w1.heap.size 52 1 u4 (done.map fun p=> #[p.1]) (w4.alloc (.cells #[.slice (some ⟨wr.heap.size,0,none⟩) m m] 52)):=HP.out.later hb5;have hdl:(rest.drop m).length=rest.length-m:=List.length_drop;have hst:=(chunk_step hR.2.1).2;rw[<-hm.1]at hst;have htl:(rest.take m).length=m:=by rw[List.length_take,Nat.min_eq_left hm.2.2]
    refine⟨c',rest.drop m,a3,c3,done++[(.slice (some ⟨wr.heap.size,0,none⟩) m m,rest.take m)],rfl,by rw[hdl],⟨fun h=> ?_,by rw[hdl];exact hst,by rw[hdl];omega,?_,?_⟩,?_,?_,iH (fun p hp=> ?_),?_⟩
    ·refine List.eq_nil_of_length_eq_zero ?_
     rw[hdl,hm.1,h];simp
    ·rw[List.length_append,List.length_singleton]
     omega
    ·rw[<-hR.2.2.2.2,List.map_append,List.append_assoc,chunks,<-hm.1]
     rfl
    ·rw[hdl]
     exact(HC3.out.later hb5).kept HG6.out (fun X e=>by
      rcases hp5.own with h|⟨g,_,_,h,h2,_⟩
      ·have e':u4.ownBlock=some X:=e
       rw[h]at e';cases e'
      ·have e':u4.ownBlock=some X:=e
       rw[h]at e';obtain rfl:=Option.some.inj e';omega)
    ·rw[List.map_append]
     exact HP6.out
    ·have hT:∀X,u4.ownBlock=some X->∃o:Obj,(w4.alloc (.cells #[.slice (some ⟨wr.heap.size,0,none⟩) m m] 52)).heap[X]? =some o/\∀cs fr,o≠.cells cs 35 fr:=fun X e=>by
      obtain⟨cs,fr,h⟩:=hp5.typed' X e;exact⟨_,h,fun cs' fr' e=>by cases e⟩
     rcases List.mem_append.1 hp with hp|hp
     ·exact((HD.out p hp).later hb5).keptT HG6.out hT
     ·rw[List.mem_singleton]at hp
      subst hp;rw[htl];exact((part_head henc hw1 hm.2.2 hm.2.1 HG4.out).later (Below.newly' _ _)).keptT HG6.out hT
    ·exact(tW HB.out hb5).trans (hp5.below HG6.out (Nat.le_trans HB1'.out (Nat.le_refl _)) (by have:=hb5.size;have:=HB.out.size;omega))
   case measure=>have:=HCE.out;simp[intOf];omega
theorem sp_node {α:Type} {enc:α->List Value} (henc:∀x,(enc x).length=4) (hone:∀x,∀u∈enc x,u.oneCell'=true) (w:World) {S:Nat->Prop} (B:Nat) (ls:List (Value×List α))
  (hcells:∀k (hk:k<ls.length),w.cell? ⟨B,k,none⟩=some ls[k].1) (hcut:∀p∈ls,CutAt S w 4 p.1 (en enc p.2) p.2.length) (xs:List α) (hxs:catE ls ls.length=xs) (hN:xs.length<=100000) (hl:ls.length<=1000):
  Calls Tryz.prog 126 #[.slice (some ⟨B,0,none⟩) ls.length ls.length] w fun e w'=>∃v,e=.returned v/\∃pl,PartsAt enc (fun g=>w.heap.size<=g) w' 86 4 v pl/\pl.map (·.2)=chunks (cntN xs.length) xs/\Below w.heap.size w w':=by
 obtain⟨i,hi,hz,h1,h2⟩:=info_parts rnode_info;have HCC:=iH (cc_node hone w B ls hcells hcut (by rw[hxs];exact hN) hl);rw[hxs]at HCC;have HI:=iH (And.intro hi (And.intro hz (And.intro h1 h2)));obtain⟨N,hN'⟩:∃N,N=xs.length:=⟨_,rfl⟩
 have HN:=iH hN;rw[<-hN']at hN HCC;have hN6:(N:Int)<=100000:=by omega
 have HCNT:Hid (((N:Int)+16-1)/16=(cntN N:Nat)):=by show _=_;unfold cntN;omega
 have HNN:=iH hN';clear hi hz h1 h2 hcells hcut hxs hN hN';go_enter Tryz.func126,Tryz.ntmps126;go_wp2_with (go_at_call 141;refine HCC.out.mono ?_;rintro e w1 ⟨v1,rfl,hc1,hb1⟩;obtain⟨a1,c1,rfl,_⟩:=hc1.shape;have HC1:=iH hc1;have HB1:=iH hb1;clear hc1 hb1)
 go_loopw [3,4,5] (fun all parts left wr=>∃(c:Nat) (rest:List α) (a:Option Addr) (cp:Nat) (done:List (Value×List α)),left=.int .i64 (c:Int)/\all=.slice a rest.length cp/\Hid ((c=0->rest=[])/\1*c<=rest.length/\rest.length<=N/\done.length+c=cntN N/\done.map (·.2)++chunks c rest=chunks (cntN N) xs)/\
  Hid (CutAt (fun g=>g<w1.heap.size) wr 4 (.slice a rest.length cp) (en enc rest) rest.length)/\Hid (RowsOwn w1.heap.size 84 1 parts (done.map fun p=> #[p.1]) wr)/\Hid (∀p∈done,HeadAt (fun g=>w1.heap.size<=g) wr 86 4 p.1 (en enc p.2) p.2.length)/\Hid (Below w.heap.size w wr)) (fun _ _ left _=>(intOf left).toNat)
 case atStart=>
  refine⟨cntN N,xs,a1,c1,[],by rw[HCNT.out],by rw[HNN.out],⟨fun h=> ?_,?_,by rw[HNN.out];exact Nat.le_refl _,by simp,by simp⟩,?_,?_,iH (fun p h=>by cases h),HB1⟩
  ·refine List.eq_nil_of_length_eq_zero ?_
   rw[<-HNN.out];unfold cntN at h;omega
  ·rw[<-HNN.out]
   unfold cntN;omega
  ·have h:=HC1.out.old.weak (S':=fun g=>g<w1.heap.size) (fun g hg=>hg.2)
   rw[HNN.out]at h;exact h
  ·exact⟨World.ownsRowF_nil _ _ _ _,Nat.le_refl _,fun c h=>by cases h⟩
 case round=>
  have HB1':Hid (w.heap.size<=w1.heap.size):=HB1.out.size;clear HC1 HCC HB1;obtain⟨c,rest,a,cp,done,rfl,rfl,HR,HC,HP,HD,HB⟩:=hrel;by_cases h0:c=0
  ·subst h0
   go_wp2_with fail
   go_ret;refine⟨_,rfl,done,?_,by have:=HR.out.2.2.2.2;rw[<-HNN.out];simpa[chunks]using this,HB.out⟩;rcases Nat.eq_zero_or_pos done.length with hd|hd
   ·obtain rfl:=List.eq_nil_of_length_eq_zero hd
    obtain⟨_,h2⟩:=HP.out.1;rcases h2 with⟨e,_⟩|⟨g,cap,cur,fz,e,_⟩
    ·exact⟨none,0,0,e,fun h=>absurd h (by simp),fun k hk=>absurd hk (by simp),fun p h=>by cases h⟩
    ·exact⟨some ⟨g,0,none⟩,g,cap,e,fun _=>rfl,fun k hk=>absurd hk (by simp),fun p h=>by cases h⟩
   ·obtain⟨g,cap,cur,fz,e,_⟩:=HP.out.at_ (by intro e;rw[List.map_eq_nil_iff]at e;rw[e]at hd;simp at hd)
    rw[List.length_map]at e;refine⟨some ⟨g,0,none⟩,g,cap,e,fun _=>rfl,fun k hk=> ?_,fun p hp=>(HD.out p hp).weak fun g hg=>Nat.le_trans HB1'.out hg⟩;have hr:=HP.out.read e (i:=k) (c:=#[done[k].1]) (by rw[List.getElem?_map,List.getElem?_eq_getElem hk];rfl);have:=hr 0 done[k].1 rfl;rwa[Nat.mul_one,Nat.add_zero]at this
  ·have hR:=HR.out
   have hc0:((c:Int)>0):=by omega
   have hc1:¬((c:Int)=0):=by omega
   obtain⟨c',hce⟩:∃c',c=c'+1:=⟨c-1,by omega⟩
   obtain⟨m,hm⟩:∃m,m=rest.length/(c'+1):=⟨_,rfl⟩
   rw[hce]at hR;have hm0:0<m:=by have:=(chunk_step hR.2.1).1;omega
   have hmle:m<=rest.length:=by rw[hm];exact Nat.div_le_self _ _
   have hq1:(rest.length:Int)/(c:Int)=(m:Int):=by rw[hm,hce];exact(Int.natCast_ediv _ _).symm
   have hm5:(m:Int)<=100000:=by omega
   have hcs:((c:Int)-1)=(c':Int):=by omega
   have hc5:(c:Int)<=100000:=by omega
   obtain⟨a3,c3,hc3,hr3⟩:=cut_l 84 tn_sl tn_size HC.out (lo:=m) hmle;rw[en_drop henc]at hc3;have HC3:=iH hc3;have HM:=iH (And.intro hm (And.intro hm0 hmle));have HRN:=iH hR;have hrl:(rest.length:Int)<=100000:=by omega
   have HW1:Hid (w1.heap.size<=wr.heap.size):=HP.out.2.1;have HCE:=iH hce;clear hm hm0 hmle hR hc3 h0 hce HR;go_wp2_with (first
    |(refine wpList_make_s _ rfl _ _ 84 rfl 86 i (.agg #[.int .i64 0,.int .i64 0,.slice none 0 0,.slice none 0 0]) 4 Tryz.underlying84 HI.out.1 HI.out.2.1 HI.out.2.2.1 .i64 .i64 m rfl rfl (by rw[HI.out.2.2.2];omega) (by omega) ?_)
    |(refine wpList_copy_full rfl _ _ 84 84 rfl 86 Tryz.underlying84 4 rnode_size wr.heap.size m rfl rfl (HC.out.later (Below.newly' _ _)) HM.out.2.2 HM.out.2.1 86 _ (heap_alloc_last _ _) (by simp[size_madeCells]) (en_one hone _) ?_;intro w4 h4 k4;have HG4:=iH h4;have HB4:Hid (Below wr.heap.size wr w4):=(Below.newly' _ _).trans (k4.below (Nat.le_refl _));clear h4 k4)
    |(refine rows_list rfl (z:=.slice none 0 0) (by_:=24) 177 84 _ _ rfl rfl ((HP.out.later HB4.out).later (Below.newly' _ _)) w4.heap.size rfl (heap_alloc_last w4 _) rfl (by simp[Value.oneCell']) Tryz.underlying177 (by kernel_rfl) rfl (by decide) (by rw[List.length_map];have:=HRN.out;have:=HN.out;have:=HNN.out;unfold cntN at*;omega) (by decide) ?_;intro v6 w6 hp6 hg6;have HP6:=iH hp6;have HG6:=iH hg6;clear hp6 hg6))
   go_roundw
   case rel=>
    have hm:=HM.out;have hR:=HRN.out;have hw1:=HW1.out;have hb5:Below wr.heap.size wr (w4.alloc (.cells #[.slice (some ⟨wr.heap.size,0,none⟩) m m] 84)):=Below.more HB4.out _;have hp5:RowsOwn w1.heap.size 84 1 u4 (done.map fun p=> #[p.1]) (w4.alloc (.cells #[.slice (some ⟨wr.heap.size,0,none⟩) m m] 84)):=HP.out.later hb5;have hdl:(rest.drop m).length=rest.length-m:=List.length_drop;have hst:=(chunk_step hR.2.1).2;rw[<-hm.1]at hst;have htl:(rest.take m).length=m:=by rw[List.length_take,Nat.min_eq_left hm.2.2]
    refine⟨c',rest.drop m,a3,c3,done++[(.slice (some ⟨wr.heap.size,0,none⟩) m m,rest.take m)],rfl,by rw[hdl],⟨fun h=> ?_,by rw[hdl];exact hst,by rw[hdl];omega,?_,?_⟩,?_,?_,iH (fun p hp=> ?_),?_⟩
    ·refine List.eq_nil_of_length_eq_zero ?_
     rw[hdl,hm.1,h];simp
    ·rw[List.length_append,List.length_singleton]
     omega
    ·rw[<-hR.2.2.2.2,List.map_append,List.append_assoc,chunks,<-hm.1]
     rfl
    ·rw[hdl]
     exact(HC3.out.later hb5).kept HG6.out (fun X e=>by
      rcases hp5.own with h|⟨g,_,_,h,h2,_⟩
      ·have e':u4.ownBlock=some X:=e
       rw[h]at e';cases e'
      ·have e':u4.ownBlock=some X:=e
       rw[h]at e';obtain rfl:=Option.some.inj e';omega)
    ·rw[List.map_append]
     exact HP6.out
    ·have hT:∀X,u4.ownBlock=some X->∃o:Obj,(w4.alloc (.cells #[.slice (some ⟨wr.heap.size,0,none⟩) m m] 84)).heap[X]? =some o/\∀cs fr,o≠.cells cs 86 fr:=fun X e=>by
      obtain⟨cs,fr,h⟩:=hp5.typed' X e;exact⟨_,h,fun cs' fr' e=>by cases e⟩
     rcases List.mem_append.1 hp with hp|hp
     ·exact((HD.out p hp).later hb5).keptT HG6.out hT
     ·rw[List.mem_singleton]at hp
      subst hp;rw[htl];exact((part_head henc hw1 hm.2.2 hm.2.1 HG4.out).later (Below.newly' _ _)).keptT HG6.out hT
    ·exact(tW HB.out hb5).trans (hp5.below HG6.out (Nat.le_trans HB1'.out (Nat.le_refl _)) (by have:=hb5.size;have:=HB.out.size;omega))
   case measure=>have:=HCE.out;simp[intOf];omega
end Go.Proofs.YtengibnpebfblaaGreatDoor
