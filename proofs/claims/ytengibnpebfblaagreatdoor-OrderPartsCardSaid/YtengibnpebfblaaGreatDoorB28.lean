import Derived.Test.YtengibnpebfblaaGreatDoorB26
set_option maxRecDepth 1000000
set_option maxHeartbeats 8000000
set_option linter.unusedSimpArgs false
namespace Go.Proofs.YtengibnpebfblaaGreatDoor
open Go.RowKit
theorem innC_one {rc mc:Array Value} {d:Value} {n:Nat} (hr:rc.all (·.oneCell')=true) (hm:mc.all (·.oneCell')=true) (hd:d.oneCell'=true):(innC rc mc d n).all (·.oneCell')=true:=by
 rw[innC,Array.all_append,Array.all_append,hr,hm];show((true&&true)&&(#[d,.int .i64 (n:Int)]:Array Value).all (·.oneCell'))=true;rw[Bool.true_and,Bool.true_and,Array.all_eq_true_iff_forall_mem];intro u hu;simp only[List.mem_toArray,List.mem_cons,List.not_mem_nil,or_false]at hu;rcases hu with rfl|rfl
 ·exact hd
 ·rfl
theorem innC_cnt {rc mc:Array Value} (hr:rc.size=4) (hm:mc.size=6) (d0 d:Value) (n0 n:Nat):((innC rc mc d0 n0).toList.take 10++(#[d,.int .i64 (n:Int)]:Array Value).toList++(innC rc mc d0 n0).toList.drop (10+(#[d,.int .i64 (n:Int)]:Array Value).size)).toArray=innC rc mc d n:=by
 have h1:(rc++mc).toList.length=10:=by simp[hr,hm]
 have h2:(innC rc mc d0 n0).toList=(rc++mc).toList++[d0,.int .i64 (n0:Int)]:=by simp[innC]
 rw[h2,<-h1,List.take_left];have h3:(#[d,.int .i64 (n:Int)]:Array Value).size=2:=rfl;have h4:List.drop ((rc++mc).toList.length+2) ((rc++mc).toList++[d0,.int .i64 (n0:Int)])=[]:=List.drop_eq_nil_of_le (by simp;omega);rw[h3,h4];simp[innC]
theorem innC_rp {rc mc rc':Array Value} (hr:rc.size=4) (hr':rc'.size=4) (d:Value) (n:Nat):((innC rc mc d n).toList.take 0++rc'.toList++(innC rc mc d n).toList.drop (0+rc'.size)).toArray=innC rc' mc d n:=by
 have h2:(innC rc mc d n).toList=rc.toList++(mc.toList++[d,.int .i64 (n:Int)]):=by simp[innC]
 have h3:0+rc'.size=rc.toList.length:=by simp[hr,hr']
 rw[h2,h3,List.drop_left];simp[innC]
theorem innC_mp {rc mc mc':Array Value} (hr:rc.size=4) (hm:mc.size=6) (hm':mc'.size=6) (d:Value) (n:Nat):((innC rc mc d n).toList.take 4++mc'.toList++(innC rc mc d n).toList.drop (4+mc'.size)).toArray=innC rc mc' d n:=by
 have h2:(innC rc mc d n).toList=rc.toList++(mc.toList++[d,.int .i64 (n:Int)]):=by simp[innC]
 have h4:(4:Nat)=rc.toList.length:=by simp[hr]
 have h3:4+mc'.size=(rc.toList++mc.toList).length:=by simp[hr,hm,hm']
 have h5:List.take 4 (rc.toList++(mc.toList++[d,.int .i64 (n:Int)]))=rc.toList:=by rw[h4,List.take_left]
 rw[h2,h3,h5,<-List.append_assoc,List.drop_left];simp[innC]
def Chgs (S:Nat->Prop) (w:World) (rc mc:Array Value) (d0:Value) (N0:Nat) (lr:List Cel) (sd:Nat) (nn:Int) (lm:List Ent) (fnum:Nat) (lb:Array Value):Prop:=
 ∀W X,Below w.heap.size w W->w.heap.size<=X->W.heap[X]? =some (.cells (innC rc mc d0 N0) 103 (0,0))->Calls Tryz.prog fnum (#[.pointer (some ⟨X,0,none⟩)]++lb) W fun r W'=>r=.returned (.tuple #[])/\∃rc' mc',W'.heap[X]? =some (.cells (innC rc' mc' d0 N0) 103 (0,0))/\RootR (fun g=>(S g/\g<w.heap.size)\/W.heap.size<=g) W' rc' lr/\MapAt (fun g=>(S g/\g<w.heap.size)\/W.heap.size<=g) W' sd nn lm mc'/\∃W1,Below W.heap.size W W1/\Only X W1 W'
theorem va_changed {S:Nat->Prop} (w:World) (x:Cel) (b:Nat) (hp:x.p=some ⟨b,0,none⟩) (rc mc:Array Value) (d0:Value) (N0:Nat) (fr:Nat×Nat) (hbk:w.heap[b]? =some (.cells (innC rc mc d0 N0) 103 fr)) (hrs:rc.size=4) (hms:mc.size=6)
    (h1r:rc.all (·.oneCell')=true) (h1m:mc.all (·.oneCell')=true) (h1d:d0.oneCell'=true) (lr:List Cel) (sd:Nat) (nn:Int) (lm:List Ent) (fnum:Nat) (lb:Array Value) (hent:∀args w,(callFunc fnum args).run Tryz.prog w=.ok (.enter fnum args) w)
    (hchg:Chgs S w rc mc d0 N0 lr sd nn lm fnum lb) (da:Option Addr) (dc:Nat) (l:List Int) (n:Nat) (hl:l.length<=100) (hn:n<=100000):
    Calls Tryz.prog 48 #[.agg (celC x),.agg #[.slice da l.length dc,.int .i64 (n:Int)],.func (.func fnum) #[] lb] w fun r w'=>Below w.heap.size w w'/\
      ((63<l.length/\r=.returned (.tuple #[.agg (celC zeroV),.int .i64 7]))\/(l.length<=63/\16383<n/\r=.returned (.tuple #[.agg (celC zeroV),.int .i64 8]))\/
       (l.length<=63/\n<=16383/\∃X rc' mc',r=.returned (.tuple #[.agg (celC ⟨x.k,x.n,x.t,some ⟨X,0,none⟩⟩),.int .i64 0])/\w.heap.size<=X/\w'.heap[X]? =some (.cells (innC rc' mc' (.slice da l.length dc) n) 103 (0,0))/\RootR (fun g=>S g\/w.heap.size<=g) w' rc' lr/\MapAt (fun g=>S g\/w.heap.size<=g) w' sd nn lm mc')):=by
  obtain⟨w1,hw1⟩:∃w1,((w.alloc (.cells (celC x) 35)).alloc (.cells #[.slice da l.length dc,.int .i64 (n:Int)] 101)).alloc (.cells #[.int .i64 0,.int .i64 0,.string ⟨#[]⟩,.pointer none] 35)=w1:=⟨_,rfl⟩
  obtain⟨hb1,hx1,ht1,hy1,hs1⟩:=three_newV hw1;have HX1:=iH hx1;have HT1:=iH ht1;have HY1:=iH hy1;have HB1:=iH hb1;have HS1:=iH hs1;have HDP:=iH (tl_depth w1 da l.length dc (n:Int) (by omega));have HN:=iH (And.intro hl hn);have hl':(l.length:Int)<=100:=by omega
  have hn':(n:Int)<=100000:=by omega
  have hn0:(0:Int)<=(n:Int):=by omega
  have HPX:Hid ((celC x)[3]? =some (.pointer (some ⟨b,0,none⟩))):=by show _=_;rw[<-hp];rfl
  have HBK:=iH (kW hb1 hbk);have HZ:=iH (And.intro hrs (And.intro hms (innC_one (n:=N0) h1r h1m h1d)));have HCH:=iH hchg;clear hx1 ht1 hy1 hs1 hb1 hl hn hbk hrs hms h1r h1m h1d hchg;rcases Nat.lt_or_ge 63 l.length with h63|h63
  ·have c1:((l.length+1:Nat):Int)>64:=by omega
   have HH:=iH h63;clear h63;go_enter Tryz.func48,Tryz.ntmps48;go_upto_region 1 with fail
   clear hw1;go_wp2_with (first
     |(refine ld_if rfl 101 _ rfl (w.heap.size+1) rfl 101 _ _ _ HT1.out Tryz.underlying101 rfl tally_size ?_)
     |(go_at_call 85;refine HDP.out.mono ?_;rintro r w2 ⟨rfl,hb2⟩;have HB2:=iH (tW HB1.out hb2);have HY2:=iH (kW hb2 HY1.out);clear hb2)
     |(refine st_agg rfl 35 _ _ rfl (w.heap.size+2) #[.int .i64 0,.int .i64 0,.string ⟨#[]⟩,.pointer none] rfl rfl 35 _ HY2.out val_size rfl (by simp[Value.oneCell']) ?_;intro w5 h5 k5))
   exact bodyPost_ret (results_cell_row1 rfl _ _ (w.heap.size+2) 35 _ (0,0) _ rfl h5 Tryz.underlying35 rfl val_size) rfl ⟨HB2.out.trans (k5.below (by omega)),.inl ⟨HH.out,rfl⟩⟩
  have c1:¬((l.length+1:Nat):Int)>64:=by omega
  have H63:=iH h63;clear h63;rcases Nat.lt_or_ge 16383 n with h16|h16
  ·have c2:(n:Int)+1>16384:=by omega
   have HH:=iH h16;clear h16;go_enter Tryz.func48,Tryz.ntmps48;go_upto_region 1 with fail
   clear hw1;have cn:w1.cell? ⟨w.heap.size+1,1,none⟩=some (.int .i64 (n:Int)):=cell_in HT1.out rfl;go_wp2_with (first
     |(refine ld_if rfl 101 _ rfl (w.heap.size+1) rfl 101 _ _ _ HT1.out Tryz.underlying101 rfl tally_size ?_)
     |(go_at_call 85;refine HDP.out.mono ?_;rintro r w2 ⟨rfl,hb2⟩;have cn2:=keep_cell cn hb2;have HB2:=iH (tW HB1.out hb2);have HY2:=iH (kW hb2 HY1.out);clear hb2)
     |(refine st_agg rfl 35 _ _ rfl (w.heap.size+2) #[.int .i64 0,.int .i64 0,.string ⟨#[]⟩,.pointer none] rfl rfl 35 _ HY2.out val_size rfl (by simp[Value.oneCell']) ?_;intro w5 h5 k5))
   exact bodyPost_ret (results_cell_row1 rfl _ _ (w.heap.size+2) 35 _ (0,0) _ rfl h5 Tryz.underlying35 rfl val_size) rfl ⟨HB2.out.trans (k5.below (by omega)),.inr (.inl ⟨H63.out,HH.out,rfl⟩)⟩
  have c2:¬(n:Int)+1>16384:=by omega
  have H16:=iH h16;clear h16;go_enter Tryz.func48,Tryz.ntmps48;go_upto_region 1 with fail
  clear hw1;have cn:w1.cell? ⟨w.heap.size+1,1,none⟩=some (.int .i64 (n:Int)):=cell_in HT1.out rfl;have cp:w1.cell? ⟨w.heap.size,3,none⟩=some (.pointer (some ⟨b,0,none⟩)):=cell_in HX1.out HPX.out;go_upto_region 6 with(first
    |(refine ld_if rfl 101 _ rfl (w.heap.size+1) rfl 101 _ _ _ HT1.out Tryz.underlying101 rfl tally_size ?_)
    |(go_at_call 85;refine HDP.out.mono ?_;rintro r w2 ⟨rfl,hb2⟩;replace cn:=keep_cell cn hb2;replace cp:=keep_cell cp hb2;have HB2:=iH (tW HB1.out hb2);have HX2:=iH (kW hb2 HX1.out);have HT2:=iH (kW hb2 HT1.out);have HY2:=iH (kW hb2 HY1.out);have HK2:=iH (kW hb2 HBK.out);have HL2:Hid (w.heap.size+3<=w2.heap.size):=(by have:=HS1.out;have:=hb2.size;show _<=_;omega);clear hb2)
    |(refine ld_if rfl 103 _ rfl b rfl 103 _ _ _ HK2.out Tryz.underlying103 rfl (by rw[innC_size HZ.out.1 HZ.out.2.1];exact inner_size) ?_)
    |(refine st_agg rfl 103 _ _ rfl w2.heap.size (innC rc mc d0 N0) rfl rfl 103 _ (heap_alloc_last _ _) (by rw[innC_size HZ.out.1 HZ.out.2.1];exact inner_size) (by rw[innC_size HZ.out.1 HZ.out.2.1];rfl) HZ.out.2.2 ?_;intro w4 h4 k4))
  have ha:=Below.newly' w2 (.cells #[.int .i64 0,.int .i64 0,.slice none 0 0,.slice none 0 0,.int .u64 0,.int .i64 0,.int .i64 0,.int .u32 0,.slice none 0 0,.slice none 0 0,.slice none 0 0,.int .i64 0] 103);have HB4:=iH ((tW HB2.out ha).trans (k4.below HB2.out.size));have hl2:=HL2.out;have HX4:=iH (k4.other (kW ha HX2.out) (by omega));have HT4:=iH (k4.other (kW ha HT2.out) (by omega));have HY4:=iH (k4.other (kW ha HY2.out) (by omega));obtain⟨X,hX⟩:∃X,X=w2.heap.size:=⟨_,rfl⟩
  rw[<-hX]at h4 hl2 ⊢;have HXX:=iH hl2;have HCC:=iH (HCH.out w4 X HB4.out (by omega) h4);have HSX:Hid (X<w4.heap.size):=(gZ h4)
  clear ha hl2 h4 k4 HX1 HT1 HY1 HX2 HT2 HY2 HK2 HBK HCH cn cp hX HDP;go_upto_region 7 with(first
    |((with_reducible refine HCC.out.mono ?_);rintro r w5 ⟨rfl,rc',mc',h5,hr5,hm5,W1,hb5,k5⟩))
  have hsx:=HSX.out;have hxx:=HXX.out;have hkb:∀(g:Nat) (o:Obj),g<w4.heap.size->g≠X->w4.heap[g]? =some o->w5.heap[g]? =some o:=fun g o hg hne h=>k5.other ((hb5.block g hg).trans h) hne
  have HX5:=iH (hkb _ _ (by omega) (by omega) HX4.out);have HT5:=iH (hkb _ _ (by omega) (by omega) HT4.out);have HY5:=iH (hkb _ _ (by omega) (by omega) HY4.out);have HI5:=iH h5;have HZ5:=iH (And.intro hr5.size hm5.size);have HR5:=iH hr5;have HM5:=iH hm5;have HW5:=iH ((tW HB4.out hb5).trans (k5.below (by omega)));have HL5:Hid (w4.heap.size<=w5.heap.size):=by have:=hb5.size;rw[<-k5.size]at this;exact this
  clear hsx hxx hkb h5 hr5 hm5 hb5 k5 HCC HX4 HT4 HY4;have HRX:Hid (w5.rangeAt w.heap.size 0 [.int .i64 x.k,.int .i64 x.n,.string x.t]):=fun j u hu=>cell_in HX5.out (by
    have hj:j<3:=(List.getElem?_eq_some_iff.1 hu).1
    match j,hj with
    |0,_=>exact hu
    |1,_=>exact hu
    |2,_=>exact hu)
  go_wp2_with (first
    |(refine ld_if rfl 101 _ rfl (w.heap.size+1) rfl 101 _ _ _ HT5.out Tryz.underlying101 rfl tally_size ?_)
    |(refine st_mid rfl 101 _ _ rfl X 10 #[.slice da l.length dc,.int .i64 (n:Int)] rfl rfl 103 _ HI5.out tally_size (by rw[innC_size HZ5.out.1 HZ5.out.2];exact Nat.le_refl _) (by simp[Value.oneCell']) _ (innC_cnt HZ5.out.1 HZ5.out.2 _ _ _ _) ?_;intro w6 h6 k6;have HI6:=iH h6;have HK6:=iH k6;clear h6 k6)
    |(refine wpList_load_mid rfl 32 _ rfl w.heap.size 0 rfl [.int .i64 x.k,.int .i64 x.n,.string x.t] _ (fun j u hu=>cell_in (HK6.out.other HX5.out (by have:=HXX.out;omega)) (by
        have hj:j<3:=(List.getElem?_eq_some_iff.1 hu).1
        match j,hj with
        |0,_=>exact hu
        |1,_=>exact hu
        |2,_=>exact hu)) Tryz.underlying32 rfl scalar_size ?_)
    |(refine st_agg rfl 35 _ _ rfl (w.heap.size+2) (celC ⟨x.k,x.n,x.t,some ⟨X,0,none⟩⟩) rfl rfl 35 _ (HK6.out.other HY5.out (by have:=HXX.out;omega)) val_size rfl (celC_one _) ?_;intro w7 h7 k7))
  have hsx:=HSX.out;have hxx:=HXX.out;have hl5:=HL5.out;have hkk:∀g:Nat,((S g/\g<w.heap.size)\/w4.heap.size<=g)->g≠X/\g≠w.heap.size+2:=fun g hg=>by rcases hg with⟨_,hg⟩|hg<;>constructor<;>omega
  have hq:Kq (fun g=>(S g/\g<w.heap.size)\/w4.heap.size<=g) w5 w7:=fun g o hg h=>k7.other (HK6.out.other h (hkk g hg).1) (hkk g hg).2
  exact bodyPost_ret (results_cell_row1 rfl _ _ (w.heap.size+2) 35 _ (0,0) _ rfl h7 Tryz.underlying35 rfl val_size) rfl ⟨(HW5.out.trans (HK6.out.below (by omega))).trans (k7.below (by omega)),.inr (.inr ⟨H63.out,by have:=H16.out;omega,X,rc',mc',rfl,by omega,k7.other HI6.out (by omega),
    HR5.out.imp hq fun g hg _=>hg.elim (fun h=>.inl h.1) (fun h=>.inr (by omega)),HM5.out.imp hq.kp fun g hg _=>hg.elim (fun h=>.inl h.1) (fun h=>.inr (by omega))⟩)⟩
section
variable {P : Program} {md : Region.Mode} {ops : Array Oper} {Q : Exit → Act → World → Prop} {S : World → Prop} {U : List Nat}
theorem wpAnyT_firstP {i:Nat} {oi:Oper} {v:Value} (hi:ops[i]? =some oi) (hsel:∀(j:Nat) (o:Oper) cs b,ops[j]? =some o->o.op≠.select cs b)
  (hQ:∀c a w,Q (.panic c) (a.put oi.dst v) w->Q (.panic c) a w) (hU:U.contains i=true):
  ∀(fuel:Nat) (listed:Array Bool) (a:Act) (w:World),
   (∀j oj,ops[j]? =some oj->j≠i->listed.getD j true=false->(∀e∈oj.after,Region.binds md e=true->e.on≠i)->oi.apart ops oj=true)->
   i∈Region.ready md ops listed->YieldsIf P ops (fun _=>True) oi v a->
   wpAnyT P md ops Q S U fuel (listed.setIfInBounds i true) (a.put oi.dst v) w->wpAnyT P md ops Q S U (fuel+1) listed a w:=by
 intro fuel;induction fuel with
 |zero=>
  intro listed a w _ hr hy H;refine⟨fun h=>(by rw[h]at hr;cases hr),fun j hj=> ?_⟩;by_cases hji:j=i
  ·subst hji;exact hy.wpOp hi trivial ⟨fun h=>(by rw[hU]at h;cases h),H⟩
  ·have:=ready_mono hj hji
   rw[H.1]at this;cases this
 |succ fuel ih=>
  intro listed a w hfree hr hy H;refine⟨fun h=>(by rw[h]at hr;cases hr),fun j hj=> ?_⟩;by_cases hji:j=i
  ·subst hji;exact hy.wpOp hi trivial ⟨fun h=>(by rw[hU]at h;cases h),H⟩
  ·have h1:=H.2 j (ready_mono hj hji)
   obtain⟨hjun,oj,hoj,hall⟩:=mem_ready.1 hj;have hifalse:listed.getD i false=false:=by
    have h0:=(mem_ready.1 hr).1;rcases Nat.lt_or_ge i listed.size with h'|h'
    ·simp[h']at h0 ⊢;exact h0
    ·simp[Array.getElem?_eq_none h']
   have hnot:∀e∈oj.after,Region.binds md e=true->e.on≠i:=fun e he hb heq=>by
    have h1:=hall e he hb;rw[heq,hifalse]at h1;cases h1
   have h2:=wpOp_putIf hoj (hfree j oj hoj hji hjun hnot) (fun cs b=>hsel i oi cs b hi) (fun cs b=>hsel j oj cs b hoj) hQ hy h1;have hfree':∀k ok,ops[k]? =some ok->k≠i->(listed.setIfInBounds j true).getD k true=false->
     (∀e∈ok.after,Region.binds md e=true->e.on≠i)->oi.apart ops ok=true:=fun k ok hk hki hun hno=>by
    refine hfree k ok hk hki ?_ hno;by_cases hjk:j=k
    ·subst hjk;exact hjun
    ·rw[getD_set_ne true hjk]at hun;exact hun
   refine wpOp_mono (fun a' w' h3=>⟨fun hc=>h3.2.1 hc,ih (listed.setIfInBounds j true) a' w' hfree' (ready_mono hr (Ne.symm hji)) h3.1 ?_⟩) h2;rw[Array.setIfInBounds_comm _ _ hji];exact h3.2.2
theorem wpAnyT_firstL {i:Nat} {oi:Oper} {v:Value} (hi:ops[i]? =some oi) (hsel:∀(j:Nat) (o:Oper) cs b,ops[j]? =some o->o.op≠.select cs b)
  (hQ:∀c a w,Q (.panic c) (a.put oi.dst v) w->Q (.panic c) a w):
  ∀(fuel:Nat) (listed:Array Bool) (a:Act) (w:World),
   (∀j oj,ops[j]? =some oj->j≠i->listed.getD j true=false->(∀e∈oj.after,Region.binds md e=true->e.on≠i)->oi.apart ops oj=true)->
   Closed md ops listed->(∀j,U.contains j=true->listed.getD j false=true\/waitsFor md ops [j] i=true)->i∈Region.ready md ops listed->YieldsIf P ops S oi v a->S w->
   wpAnyT P md ops Q S U fuel (listed.setIfInBounds i true) (a.put oi.dst v) w->wpAnyT P md ops Q S U (fuel+1) listed a w:=by
 intro fuel;induction fuel with
 |zero=>
  intro listed a w _ _ _ hr hy hS H;refine⟨fun h=>(by rw[h]at hr;cases hr),fun j hj=> ?_⟩;by_cases hji:j=i
  ·subst hji;exact hy.wpOp hi hS ⟨fun _=>hS,H⟩
  ·have:=ready_mono hj hji
   rw[H.1]at this;cases this
 |succ fuel ih=>
  intro listed a w hfree hcl hw hr hy hS H;refine⟨fun h=>(by rw[h]at hr;cases hr),fun j hj=> ?_⟩;by_cases hji:j=i
  ·subst hji;exact hy.wpOp hi hS ⟨fun _=>hS,H⟩
  ·have h1:=H.2 j (ready_mono hj hji)
   obtain⟨hjun,oj,hoj,hall⟩:=mem_ready.1 hj;have hifalse:listed.getD i false=false:=by
    have h0:=(mem_ready.1 hr).1;rcases Nat.lt_or_ge i listed.size with h'|h'
    ·simp[h']at h0 ⊢;exact h0
    ·simp[Array.getElem?_eq_none h']
   have hjfalse:listed.getD j false=false:=by
    rcases Nat.lt_or_ge j listed.size with h'|h'
    ·simp[h']at hjun ⊢;exact hjun
    ·simp[Array.getElem?_eq_none h']
   have hnot:∀e∈oj.after,Region.binds md e=true->e.on≠i:=fun e he hb heq=>by
    have h1:=hall e he hb;rw[heq,hifalse]at h1;cases h1
   have hnU:U.contains j=false:=by
    cases hc:U.contains j with
    |false=>rfl
    |true=>
     rcases hw j hc with h|h
     ·rw[hjfalse]at h;cases h
     ·exact(waits_ready h hcl hifalse (by simp) hj).elim
   have h2:=wpOp_putIf hoj (hfree j oj hoj hji hjun hnot) (fun cs b=>hsel i oi cs b hi) (fun cs b=>hsel j oj cs b hoj) hQ hy h1;have hfree':∀k ok,ops[k]? =some ok->k≠i->(listed.setIfInBounds j true).getD k true=false->
     (∀e∈ok.after,Region.binds md e=true->e.on≠i)->oi.apart ops ok=true:=fun k ok hk hki hun hno=>by
    refine hfree k ok hk hki ?_ hno;by_cases hjk:j=k
    ·subst hjk;exact hjun
    ·rw[getD_set_ne true hjk]at hun;exact hun
   refine wpOp_mono (fun a' w' h3=>⟨fun hc=>h3.2.1 hc,ih (listed.setIfInBounds j true) a' w' hfree' (closed_set hcl hj) (fun k hk=>(hw k hk).imp_left getD_set_true) (ready_mono hr (Ne.symm hji)) h3.1 (h3.2.1 hnU) ?_⟩) h2;rw[Array.setIfInBounds_comm _ _ hji];exact h3.2.2
def lateOk (md:Region.Mode) (ops:Array Oper) (listed:Array Bool) (U:List Nat) (i:Nat):Bool:=U.all fun j=>listed.getD j false||waitsFor md ops [j] i
theorem wpAnyT_takeL {i:Nat} {oi:Oper} {v:Value} {fuel:Nat} {listed:Array Bool} {a:Act} {w:World} (hi:ops[i]? =some oi)
  (hs:Region.noSelect ops=true) (hf:Region.free md ops listed i=true) (hr:(Region.ready md ops listed).contains i=true) (hw:(lateOk md ops listed U i&&closedB md ops listed)=true)
  (hQ:∀c a w,Q (.panic c) (a.put oi.dst v) w->Q (.panic c) a w) (hy:YieldsIf P ops S oi v a) (hS:S w)
  (h:wpAnyT P md ops Q S U fuel (listed.setIfInBounds i true) (a.put oi.dst v) w):wpAnyT P md ops Q S U (fuel+1) listed a w:=
 wpAnyT_firstL hi (Region.noSelect_spec hs) hQ fuel listed a w (Region.free_spec hi hf) (closed_of (Bool.and_eq_true_iff.1 hw).2) (fun j hj=>by
  have h1:=(Bool.and_eq_true_iff.1 hw).1;unfold lateOk at h1;rw[List.all_eq_true]at h1;have h2:=h1 j (by simpa using hj);rwa[Bool.or_eq_true]at h2) (by simpa using hr) hy hS h
theorem tkL (i d:Nat) {x1 x2 x3 x4 x5:_} {v:Value} {fuel:Nat} {listed:Array Bool} {a:Act} {w:World} (hi:ops[i]? =some ⟨some d,x1,x2,x3,x4,x5⟩:=by rfl) (hq:(Region.noSelect ops&&Region.free md ops listed i&&(Region.ready md ops listed).contains i&&(lateOk md ops listed U i&&closedB md ops listed))=true:=by kernel_rfl) (hQ:∀c a w,Q (.panic c) (a.put (some d) v) w->Q (.panic c) a w:=by exact fun _ _ _ h=>h) (hg:Region.wanted ⟨some d,x1,x2,x3,x4,x5⟩ (yielded ops a.tmps)=true:=by rfl) (hv:∀w,S w->(execOp a.eval ⟨some d,x1,x2,x3,x4,x5⟩).run P w=.ok (.value v) w:=by(intro w hSw;(try dsimp only at hSw);first|(go_simp;done)|(go_simp;with_reducible rfl))) (hS:S w:=by assumption) (h:wpAnyT P md ops Q S U fuel (listed.setIfInBounds i true) (a.put (some d) v) w):wpAnyT P md ops Q S U (fuel+1) listed a w:=
 have h1:=Bool.and_eq_true_iff.1 hq;have h2:=Bool.and_eq_true_iff.1 h1.1;have h3:=Bool.and_eq_true_iff.1 h2.1
 wpAnyT_takeL hi h3.1 h3.2 h2.2 h1.2 hQ (Or.inl ⟨hg,hv⟩) hS h
theorem tyL (i d:Nat) {x1 x2 x3 x4 x5:_} {v:Value} {fuel:Nat} {listed:Array Bool} {a:Act} {w:World} (hi:ops[i]? =some ⟨some d,x1,x2,x3,x4,x5⟩:=by rfl) (hq:(Region.noSelect ops&&Region.free md ops listed i&&(Region.ready md ops listed).contains i&&(lateOk md ops listed U i&&closedB md ops listed))=true:=by kernel_rfl) (hQ:∀c a w,Q (.panic c) (a.put (some d) v) w->Q (.panic c) a w:=by exact fun _ _ _ h=>h) (hy:YieldsIf P ops S ⟨some d,x1,x2,x3,x4,x5⟩ v a) (hS:S w:=by assumption) (h:wpAnyT P md ops Q S U fuel (listed.setIfInBounds i true) (a.put (some d) v) w):wpAnyT P md ops Q S U (fuel+1) listed a w:=
 have h1:=Bool.and_eq_true_iff.1 hq;have h2:=Bool.and_eq_true_iff.1 h1.1;have h3:=Bool.and_eq_true_iff.1 h2.1
 wpAnyT_takeL hi h3.1 h3.2 h2.2 h1.2 hQ hy hS h
theorem wpAnyT_takeP {i:Nat} {oi:Oper} {v:Value} {fuel:Nat} {listed:Array Bool} {a:Act} {w:World} (hi:ops[i]? =some oi)
  (hs:Region.noSelect ops=true) (hf:Region.free md ops listed i=true) (hr:(Region.ready md ops listed).contains i=true) (hU:U.contains i=true)
  (hQ:∀c a w,Q (.panic c) (a.put oi.dst v) w->Q (.panic c) a w) (hy:YieldsIf P ops (fun _=>True) oi v a)
  (h:wpAnyT P md ops Q S U fuel (listed.setIfInBounds i true) (a.put oi.dst v) w):wpAnyT P md ops Q S U (fuel+1) listed a w:=
 wpAnyT_firstP hi (Region.noSelect_spec hs) hQ hU fuel listed a w (Region.free_spec hi hf) (by simpa using hr) hy h
theorem tkP (i d:Nat) {x1 x2 x3 x4 x5:_} {v:Value} {fuel:Nat} {listed:Array Bool} {a:Act} {w:World} (hi:ops[i]? =some ⟨some d,x1,x2,x3,x4,x5⟩:=by rfl) (hq:(Region.noSelect ops&&Region.free md ops listed i&&(Region.ready md ops listed).contains i&&U.contains i)=true:=by kernel_rfl) (hQ:∀c a w,Q (.panic c) (a.put (some d) v) w->Q (.panic c) a w:=by exact fun _ _ _ h=>h) (hg:Region.wanted ⟨some d,x1,x2,x3,x4,x5⟩ (yielded ops a.tmps)=true:=by rfl) (hv:∀w,(fun _=>True) w->(execOp a.eval ⟨some d,x1,x2,x3,x4,x5⟩).run P w=.ok (.value v) w:=by(intro w _;first|(go_simp;done)|(go_simp;with_reducible rfl))) (h:wpAnyT P md ops Q S U fuel (listed.setIfInBounds i true) (a.put (some d) v) w):wpAnyT P md ops Q S U (fuel+1) listed a w:=
 have h1:=Bool.and_eq_true_iff.1 hq;have h2:=Bool.and_eq_true_iff.1 h1.1;have h3:=Bool.and_eq_true_iff.1 h2.1
 wpAnyT_takeP hi h3.1 h3.2 h2.2 h1.2 hQ (Or.inl ⟨hg,hv⟩) h
end
theorem st_mid_wp {o:Oper} {a:Act} {w:World} {K:Act->World->Prop} {Q:Exit->Act->World->Prop} (ty:TypeId) (x y:Operand) (ho:o.op=.store ty x y)
  (X k:Nat) (c':Array Value) (hx:a.eval x=.pointer (some ⟨X,k,none⟩)) (hy:a.eval y=.agg c') (T:TypeId) (c:Array Value) (hB:w.heap[X]? =some (.cells c T (0,0)))
  (hi:(Tryz.prog.info? ty).map (·.size)=some c'.size) (hk:k+c'.size<=c.size) (h1:c'.all (·.oneCell')=true) (d:Array Value) (hd:(c.toList.take k++c'.toList++c.toList.drop (k+c'.size)).toArray=d)
  (h:∀w',w'.heap[X]? =some (.cells d T (0,0))->Only X w w'->K (a.put o.dst undef) w'):o.wp Tryz.prog a w K Q:=by
 have:=run_storeCells_at (P:=Tryz.prog) X k T c'.toList 0 c w hB (by simpa using hk) (fun v hv=>(Array.all_eq_true_iff_forall_mem.1 h1) v (by simpa using hv));simp only[Nat.add_zero,Array.length_toList,hd]at this;have hrun:(storeVar ty ⟨X,k,none⟩ (.agg c')).run Tryz.prog w=.ok () (w.setRow X d):=by
  cases hq:Tryz.prog.info? ty with
  |none=>simp[hq]at hi
  |some i=>
   have hs:c'.size=i.size:=by simp[hq]at hi;omega
   simp[storeVar,sizeOf,typeInfo,hq,Value.cells,hs,this]
 unfold Oper.wp execOp;simp only[ho,hx,hy,Instr.storeAt,Instr.sureAddr,Sem.run_bind,Sem.run_pure,Result.andThen_ok,hrun];exact h _ (setRow_heap w X _ _ _ _ hB) (only_setRow _ _ _)
section
variable {S : Nat → Prop} {w : World} {rc mc : Array Value} {d0 : Value} {N0 : Nat} {sd : Nat} {nn : Int} {lr : List Cel} {L : List Ent}
theorem chg_ins (l:List Cel) (rc1:Array Value) (hr:RootR S w rc1 l) (hm:MapAt S w sd nn L mc) (p:Nat) (fp:Nat×Nat) (hp:w.heap[p]? =some (.cells rc1 88 fp)) (hrs:rc.size=4) (hms:mc.size=6):Chgs S w rc mc d0 N0 l sd nn L 51 #[.pointer (some ⟨p,0,none⟩)]:=by
 intro W X hW hwX hX;have HP:=iH (kW hW hp);have HR:=iH (hr.old.later hW);have HM:=iH (hm.old.later hW);have HX:=iH hwX;have HZ:=iH (And.intro hrs (And.intro hms hr.size));have HXI:=iH hX;have HO:=iH hr.one;clear hr hm hp hX hwX hW;show Calls Tryz.prog 51 #[.pointer (some ⟨X,0,none⟩),.pointer (some ⟨p,0,none⟩)] W _;go_enter Tryz.func51,Tryz.ntmps51;go_wp2_with (first
  |(refine ld_if rfl 88 _ rfl p rfl 88 _ _ _ HP.out Tryz.underlying88 rfl (by rw[HZ.out.2.2];exact rope_size) ?_)
  |(refine st_mid rfl 88 _ _ rfl X 0 rc1 rfl rfl 103 _ HXI.out (by rw[HZ.out.2.2];exact rope_size) (by rw[innC_size HZ.out.1 HZ.out.2.1,HZ.out.2.2];decide) HO.out _ (innC_rp HZ.out.1 HZ.out.2.2 _ _) ?_;intro w6 h6 k6))
 go_end0;have hq:Kq (fun g=>S g/\g<w.heap.size) W w6:=Kq.only k6 (fun h=>by have:=h.2;have:=HX.out;omega);exact⟨rfl,rc1,mc,h6,HR.out.imp hq (fun _ h _=>.inl h),HM.out.imp hq.kp (fun _ h _=>.inl h),W,Below.refl _ _,k6⟩
end
end Go.Proofs.YtengibnpebfblaaGreatDoor
