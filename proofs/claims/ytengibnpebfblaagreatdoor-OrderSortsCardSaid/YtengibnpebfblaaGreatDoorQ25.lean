import Derived.Test.YtengibnpebfblaaGreatDoorQ0
import Derived.Test.YtengibnpebfblaaGreatDoorQ24
set_option maxRecDepth 1000000
set_option maxHeartbeats 8000000
set_option linter.unusedSimpArgs false
namespace Go.Proofs.YtengibnpebfblaaGreatDoor
open Go.RowKit
theorem aLe {rc mc:Array Value} {d:Value} {n:Nat} (hr:rc.all (·.oneCell')=true) (hm:mc.all (·.oneCell')=true) (hd:d.oneCell'=true):(iW rc mc d n).all (·.oneCell')=true:=by
 rw[iW,Array.all_append,Array.all_append,hr,hm];show((true&&true)&&(#[d,.int .i64 (n:Int)]:Array Value).all (·.oneCell'))=true;rw[lF,lF,cO];intro u hu;simp only[List.mem_toArray,bA,gX,wV]at hu;rcases hu with rfl|rfl
 ·exact hd
 ·rfl
theorem aLf {rc mc:Array Value} (hr:rc.size=4) (hm:mc.size=6) (d0 d:Value) (n0 n:Nat):((iW rc mc d0 n0).toList.take 10++(#[d,.int .i64 (n:Int)]:Array Value).toList++(iW rc mc d0 n0).toList.drop (10+(#[d,.int .i64 (n:Int)]:Array Value).size)).toArray=iW rc mc d n:=by
 have h1:(rc++mc).toList.length=10:=by simp[hr,hm]
 have h2:(iW rc mc d0 n0).toList=(rc++mc).toList++[d0,.int .i64 (n0:Int)]:=by simp[iW]
 rw[h2,<-h1,mB];have h3:(#[d,.int .i64 (n:Int)]:Array Value).size=2:=rfl;have h4:List.drop ((rc++mc).toList.length+2) ((rc++mc).toList++[d0,.int .i64 (n0:Int)])=[]:=List.drop_eq_nil_of_le uDv;rw[h3,h4];simp[iW]
theorem aHT {rc mc rc':Array Value} (hr:rc.size=4) (hr':rc'.size=4) (d:Value) (n:Nat):((iW rc mc d n).toList.take 0++rc'.toList++(iW rc mc d n).toList.drop (0+rc'.size)).toArray=iW rc' mc d n:=by
 have h2:(iW rc mc d n).toList=rc.toList++(mc.toList++[d,.int .i64 (n:Int)]):=by simp[iW]
 have h3:0+rc'.size=rc.toList.length:=by simp[hr,hr']
 rw[h2,h3,wY];simp[iW]
theorem aMU {rc mc mc':Array Value} (hr:rc.size=4) (hm:mc.size=6) (hm':mc'.size=6) (d:Value) (n:Nat):((iW rc mc d n).toList.take 4++mc'.toList++(iW rc mc d n).toList.drop (4+mc'.size)).toArray=iW rc mc' d n:=by
 have h2:(iW rc mc d n).toList=rc.toList++(mc.toList++[d,.int .i64 (n:Int)]):=by simp[iW]
 have h4:(4:Nat)=rc.toList.length:=by simp[hr]
 have h3:4+mc'.size=(rc.toList++mc.toList).length:=by simp[hr,hm,hm']
 have h5:List.take 4 (rc.toList++(mc.toList++[d,.int .i64 (n:Int)]))=rc.toList:=by rw[h4,mB]
 rw[h2,h3,h5,<-bN,wY];simp[iW]
def Chgs (S:Nat->Prop) (w:World) (rc mc:Array Value) (d0:Value) (N0:Nat) (lr:List Cel) (sd:Nat) (nn:Int) (lm:List Ent) (fnum:Nat) (lb:Array Value):Prop:=
 ∀W X,Below w.heap.size w W->w.heap.size<=X->W.heap[X]? =some (.cells (iW rc mc d0 N0) 103 (0,0))->Calls Tryz.prog fnum (#[.pointer (some ⟨X,0,none⟩)]++lb) W fun r W'=>r=.returned (.tuple #[])/\∃rc' mc',W'.heap[X]? =some (.cells (iW rc' mc' d0 N0) 103 (0,0))/\dS (fun g=>(S g/\g<w.heap.size)\/W.heap.size<=g) W' rc' lr/\eQ (fun g=>(S g/\g<w.heap.size)\/W.heap.size<=g) W' sd nn lm mc'/\∃W1,Below W.heap.size W W1/\jK X W1 W'
theorem aGw {S:Nat->Prop} (w:World) (x:Cel) (b:Nat) (hp:x.p=some ⟨b,0,none⟩) (rc mc:Array Value) (d0:Value) (N0:Nat) (fr:Nat×Nat) (hbk:w.heap[b]? =some (.cells (iW rc mc d0 N0) 103 fr)) (hrs:rc.size=4) (hms:mc.size=6)
    (h1r:rc.all (·.oneCell')=true) (h1m:mc.all (·.oneCell')=true) (h1d:d0.oneCell'=true) (lr:List Cel) (sd:Nat) (nn:Int) (lm:List Ent) (fnum:Nat) (lb:Array Value) (hent:∀args w,(callFunc fnum args).run Tryz.prog w=.ok (.enter fnum args) w)
    (hchg:Chgs S w rc mc d0 N0 lr sd nn lm fnum lb) (da:Option Addr) (dc:Nat) (l:List Int) (n:Nat) (hl:l.length<=100) (hn:n<=100000):
    Calls Tryz.prog 48 #[.agg (aX x),.agg #[.slice da l.length dc,.int .i64 (n:Int)],.func (.func fnum) #[] lb] w fun r w'=>Below w.heap.size w w'/\
      ((63<l.length/\r=.returned (.tuple #[.agg (aX gT),.int .i64 7]))\/(l.length<=63/\16383<n/\r=.returned (.tuple #[.agg (aX gT),.int .i64 8]))\/
       (l.length<=63/\n<=16383/\∃X rc' mc',r=.returned (.tuple #[.agg (aX ⟨x.k,x.n,x.t,some ⟨X,0,none⟩⟩),.int .i64 0])/\w.heap.size<=X/\w'.heap[X]? =some (.cells (iW rc' mc' (.slice da l.length dc) n) 103 (0,0))/\dS (fun g=>S g\/w.heap.size<=g) w' rc' lr/\eQ (fun g=>S g\/w.heap.size<=g) w' sd nn lm mc')):=by
  obtain⟨w1,hw1⟩:∃w1,((w.alloc (.cells (aX x) 35)).alloc (.cells #[.slice da l.length dc,.int .i64 (n:Int)] 101)).alloc (.cells #[.int .i64 0,.int .i64 0,.string ⟨#[]⟩,.pointer none] 35)=w1:=⟨_,rfl⟩
  obtain⟨hb1,hx1,ht1,hy1,hs1⟩:=lI hw1;have HX1:=iH hx1;have HT1:=iH ht1;have HY1:=iH hy1;have HB1:=iH hb1;have HS1:=iH hs1;have HDP:=iH (aEW w1 da l.length dc (n:Int) uAu);have HN:=iH (And.intro hl hn);have hl':(l.length:Int)<=100:=by omega
  have hn':(n:Int)<=100000:=by omega
  have hn0:(0:Int)<=(n:Int):=by omega
  have HPX:Hid ((aX x)[3]? =some (.pointer (some ⟨b,0,none⟩))):=by show _=_;rw[<-hp];rfl
  have HBK:=iH (kW hb1 hbk);have HZ:=iH (And.intro hrs (And.intro hms (aLe (n:=N0) h1r h1m h1d)));have HCH:=iH hchg;clear hx1 ht1 hy1 hs1 hb1 hl hn hbk hrs hms h1r h1m h1d hchg;rcases cZ 63 l.length with h63|h63
  ·have c1:((l.length+1:Nat):Int)>64:=by omega
   have HH:=iH h63;clear h63;go_enter Tryz.func48,Tryz.ntmps48;go_upto_region 1 with fail
   clear hw1;go_wp2_with (first
     |(refine bR rfl 101 _ rfl (w.heap.size+1) rfl 101 _ _ _ HT1.out Tryz.underlying101 rfl gR ?_)
     |(go_at_call 85;refine HDP.out.mono ?_;rintro r w2 ⟨rfl,hb2⟩;have HB2:=iH (tW HB1.out hb2);have HY2:=iH (kW hb2 HY1.out);clear hb2)
     |(refine bV rfl 35 _ _ rfl (w.heap.size+2) #[.int .i64 0,.int .i64 0,.string ⟨#[]⟩,.pointer none] rfl rfl 35 _ HY2.out aR rfl uAy ?_;intro w5 h5 k5))
   exact bF (bU rfl _ _ (w.heap.size+2) 35 _ (0,0) _ rfl h5 Tryz.underlying35 rfl aR) rfl ⟨HB2.out.trans (k5.below uAu),.inl ⟨HH.out,rfl⟩⟩
  have c1:¬((l.length+1:Nat):Int)>64:=by omega
  have H63:=iH h63;clear h63;rcases cZ 16383 n with h16|h16
  ·have c2:(n:Int)+1>16384:=by omega
   have HH:=iH h16;clear h16;go_enter Tryz.func48,Tryz.ntmps48;go_upto_region 1 with fail
   clear hw1;have cn:w1.cell? ⟨w.heap.size+1,1,none⟩=some (.int .i64 (n:Int)):=aK HT1.out rfl;go_wp2_with (first
     |(refine bR rfl 101 _ rfl (w.heap.size+1) rfl 101 _ _ _ HT1.out Tryz.underlying101 rfl gR ?_)
     |(go_at_call 85;refine HDP.out.mono ?_;rintro r w2 ⟨rfl,hb2⟩;have cn2:=gS cn hb2;have HB2:=iH (tW HB1.out hb2);have HY2:=iH (kW hb2 HY1.out);clear hb2)
     |(refine bV rfl 35 _ _ rfl (w.heap.size+2) #[.int .i64 0,.int .i64 0,.string ⟨#[]⟩,.pointer none] rfl rfl 35 _ HY2.out aR rfl uAy ?_;intro w5 h5 k5))
   exact bF (bU rfl _ _ (w.heap.size+2) 35 _ (0,0) _ rfl h5 Tryz.underlying35 rfl aR) rfl ⟨HB2.out.trans (k5.below uAu),.inr (.inl ⟨H63.out,HH.out,rfl⟩)⟩
  have c2:¬(n:Int)+1>16384:=by omega
  have H16:=iH h16;clear h16;go_enter Tryz.func48,Tryz.ntmps48;go_upto_region 1 with fail
  clear hw1;have cn:w1.cell? ⟨w.heap.size+1,1,none⟩=some (.int .i64 (n:Int)):=aK HT1.out rfl;have cp:w1.cell? ⟨w.heap.size,3,none⟩=some (.pointer (some ⟨b,0,none⟩)):=aK HX1.out HPX.out;go_upto_region 6 with(first
    |(refine bR rfl 101 _ rfl (w.heap.size+1) rfl 101 _ _ _ HT1.out Tryz.underlying101 rfl gR ?_)
    |(go_at_call 85;refine HDP.out.mono ?_;rintro r w2 ⟨rfl,hb2⟩;replace cn:=gS cn hb2;replace cp:=gS cp hb2;have HB2:=iH (tW HB1.out hb2);have HX2:=iH (kW hb2 HX1.out);have HT2:=iH (kW hb2 HT1.out);have HY2:=iH (kW hb2 HY1.out);have HK2:=iH (kW hb2 HBK.out);have HL2:Hid (w.heap.size+3<=w2.heap.size):=(by have:=HS1.out;have:=hb2.size;show _<=_;omega);clear hb2)
    |(refine bR rfl 103 _ rfl b rfl 103 _ _ _ HK2.out Tryz.underlying103 rfl (by rw[nW HZ.out.1 HZ.out.2.1];exact aBR) ?_)
    |(refine bV rfl 103 _ _ rfl w2.heap.size (iW rc mc d0 N0) rfl rfl 103 _ (aF _ _) (by rw[nW HZ.out.1 HZ.out.2.1];exact aBR) (by rw[nW HZ.out.1 HZ.out.2.1];rfl) HZ.out.2.2 ?_;intro w4 h4 k4))
  have ha:=Below.newly' w2 (.cells #[.int .i64 0,.int .i64 0,.slice none 0 0,.slice none 0 0,.int .u64 0,.int .i64 0,.int .i64 0,.int .u32 0,.slice none 0 0,.slice none 0 0,.slice none 0 0,.int .i64 0] 103);have HB4:=iH ((tW HB2.out ha).trans (k4.below HB2.out.size));have hl2:=HL2.out;have HX4:=iH (k4.other (kW ha HX2.out) uAu);have HT4:=iH (k4.other (kW ha HT2.out) uAu);have HY4:=iH (k4.other (kW ha HY2.out) uAu);obtain⟨X,hX⟩:∃X,X=w2.heap.size:=⟨_,rfl⟩
  rw[<-hX]at h4 hl2 ⊢;have HXX:=iH hl2;have HCC:=iH (HCH.out w4 X HB4.out uAu h4);have HSX:Hid (X<w4.heap.size):=(gZ h4)
  clear ha hl2 h4 k4 HX1 HT1 HY1 HX2 HT2 HY2 HK2 HBK HCH cn cp hX HDP;go_upto_region 7 with(first
    |((with_reducible refine HCC.out.mono ?_);rintro r w5 ⟨rfl,rc',mc',h5,hr5,hm5,W1,hb5,k5⟩))
  have hsx:=HSX.out;have hxx:=HXX.out;have hkb:∀(g:Nat) (o:Obj),g<w4.heap.size->g≠X->w4.heap[g]? =some o->w5.heap[g]? =some o:=fun g o hg hne h=>k5.other ((hb5.block g hg).trans h) hne
  have HX5:=iH (hkb _ _ uAu uAu HX4.out);have HT5:=iH (hkb _ _ uAu uAu HT4.out);have HY5:=iH (hkb _ _ uAu uAu HY4.out);have HI5:=iH h5;have HZ5:=iH (And.intro hr5.size hm5.size);have HR5:=iH hr5;have HM5:=iH hm5;have HW5:=iH ((tW HB4.out hb5).trans (k5.below uAu));have HL5:Hid (w4.heap.size<=w5.heap.size):=by have:=hb5.size;rw[<-k5.size]at this;exact this
  clear hsx hxx hkb h5 hr5 hm5 hb5 k5 HCC HX4 HT4 HY4;have HRX:Hid (w5.rangeAt w.heap.size 0 [.int .i64 x.k,.int .i64 x.n,.string x.t]):=fun j u hu=>aK HX5.out (by
    have hj:j<3:=(List.getElem?_eq_some_iff.1 hu).1
    match j,hj with
    |0,_=>exact hu
    |1,_=>exact hu
    |2,_=>exact hu)
  go_wp2_with (first
    |(refine bR rfl 101 _ rfl (w.heap.size+1) rfl 101 _ _ _ HT5.out Tryz.underlying101 rfl gR ?_)
    |(refine aBe rfl 101 _ _ rfl X 10 #[.slice da l.length dc,.int .i64 (n:Int)] rfl rfl 103 _ HI5.out gR (by rw[nW HZ5.out.1 HZ5.out.2];exact aE _) uAy _ (aLf HZ5.out.1 HZ5.out.2 _ _ _ _) ?_;intro w6 h6 k6;have HI6:=iH h6;have HK6:=iH k6;clear h6 k6)
    |(refine dA rfl 32 _ rfl w.heap.size 0 rfl [.int .i64 x.k,.int .i64 x.n,.string x.t] _ (fun j u hu=>aK (HK6.out.other HX5.out uSz) (by
        have hj:j<3:=(List.getElem?_eq_some_iff.1 hu).1
        match j,hj with
        |0,_=>exact hu
        |1,_=>exact hu
        |2,_=>exact hu)) Tryz.underlying32 rfl aAl ?_)
    |(refine bV rfl 35 _ _ rfl (w.heap.size+2) (aX ⟨x.k,x.n,x.t,some ⟨X,0,none⟩⟩) rfl rfl 35 _ (HK6.out.other HY5.out uSz) aR rfl (eU _) ?_;intro w7 h7 k7))
  have hsx:=HSX.out;have hxx:=HXX.out;have hl5:=HL5.out;have hkk:∀g:Nat,((S g/\g<w.heap.size)\/w4.heap.size<=g)->g≠X/\g≠w.heap.size+2:=fun g hg=>by rcases hg with⟨_,hg⟩|hg<;>constructor<;>omega
  have hq:Kq (fun g=>(S g/\g<w.heap.size)\/w4.heap.size<=g) w5 w7:=fun g o hg h=>k7.other (HK6.out.other h (hkk g hg).1) (hkk g hg).2
  exact bF (bU rfl _ _ (w.heap.size+2) 35 _ (0,0) _ rfl h7 Tryz.underlying35 rfl aR) rfl ⟨(HW5.out.trans (HK6.out.below uAu)).trans (k7.below uAu),.inr (.inr ⟨H63.out,by have:=H16.out;omega,X,rc',mc',rfl,by omega,k7.other HI6.out uAu,
    HR5.out.imp hq fun g hg _=>hg.elim (fun h=>.inl h.1) (fun h=>.inr uAu),HM5.out.imp hq.kp fun g hg _=>hg.elim (fun h=>.inl h.1) (fun h=>.inr uAu)⟩)⟩
section
variable {P : Program} {md : Region.Mode} {ops : Array Oper} {Q : Exit → Act → World → Prop} {S : World → Prop} {U : List Nat}
theorem aCq {i:Nat} {oi:Oper} {v:Value} (hi:ops[i]? =some oi) (hsel:∀(j:Nat) (o:Oper) cs b,ops[j]? =some o->o.op≠.select cs b)
  (hQ:∀c a w,Q (.panic c) (a.put oi.dst v) w->Q (.panic c) a w) (hU:U.contains i=true):
  ∀(fuel:Nat) (listed:Array Bool) (a:Act) (w:World),
   (∀j oj,ops[j]? =some oj->j≠i->listed.getD j true=false->(∀e∈oj.after,Region.binds md e=true->e.on≠i)->oi.apart ops oj=true)->
   i∈Region.ready md ops listed->YieldsIf P ops (fun _=>True) oi v a->
   dX P md ops Q S U fuel (listed.setIfInBounds i true) (a.put oi.dst v) w->dX P md ops Q S U (fuel+1) listed a w:=by
 intro fuel;induction fuel with
 |zero=>
  intro listed a w _ hr hy H;refine⟨fun h=>uEu,fun j hj=> ?_⟩;by_cases hji:j=i
  ·exact Ak2
  ·have:=jT hj hji
   rw[H.1]at this;cases this
 |succ fuel ih=>
  intro listed a w hfree hr hy H;refine⟨fun h=>uEu,fun j hj=> ?_⟩;by_cases hji:j=i
  ·exact Ak2
  ·have h1:=H.2 j (jT hj hji)
   obtain⟨hjun,oj,hoj,hall⟩:=sZ.1 hj;have hifalse:listed.getD i false=false:=by
    exact Ab5
   have hnot:∀e∈oj.after,Region.binds md e=true->e.on≠i:=fun e he hb heq=>by
    have h1:=hall e he hb;rw[heq,hifalse]at h1;cases h1
   have h2:=wpOp_putIf hoj (hfree j oj hoj hji hjun hnot) (fun cs b=>hsel i oi cs b hi) (fun cs b=>hsel j oj cs b hoj) hQ hy h1;have hfree':∀k ok,ops[k]? =some ok->k≠i->(listed.setIfInBounds j true).getD k true=false->
     (∀e∈ok.after,Region.binds md e=true->e.on≠i)->oi.apart ops ok=true:=fun k ok hk hki hun hno=>by
    refine hfree k ok hk hki ?_ hno;by_cases hjk:j=k
    ·subst hjk;exact hjun
    ·rw[qU true hjk]at hun;exact hun
   refine aJC (fun a' w' h3=>⟨fun hc=>h3.2.1 hc,ih (listed.setIfInBounds j true) a' w' hfree' (jT hr (Ne.symm hji)) h3.1 ?_⟩) h2;rw[pL _ _ hji];exact h3.2.2
theorem aCr {i:Nat} {oi:Oper} {v:Value} (hi:ops[i]? =some oi) (hsel:∀(j:Nat) (o:Oper) cs b,ops[j]? =some o->o.op≠.select cs b)
  (hQ:∀c a w,Q (.panic c) (a.put oi.dst v) w->Q (.panic c) a w):
  ∀(fuel:Nat) (listed:Array Bool) (a:Act) (w:World),
   (∀j oj,ops[j]? =some oj->j≠i->listed.getD j true=false->(∀e∈oj.after,Region.binds md e=true->e.on≠i)->oi.apart ops oj=true)->
   tY md ops listed->(∀j,U.contains j=true->listed.getD j false=true\/kD md ops [j] i=true)->i∈Region.ready md ops listed->YieldsIf P ops S oi v a->S w->
   dX P md ops Q S U fuel (listed.setIfInBounds i true) (a.put oi.dst v) w->dX P md ops Q S U (fuel+1) listed a w:=by
 intro fuel;induction fuel with
 |zero=>
  intro listed a w _ _ _ hr hy hS H;refine⟨fun h=>uEu,fun j hj=> ?_⟩;by_cases hji:j=i
  ·subst hji;exact hy.wpOp hi hS ⟨fun _=>hS,H⟩
  ·have:=jT hj hji
   rw[H.1]at this;cases this
 |succ fuel ih=>
  intro listed a w hfree hcl hw hr hy hS H;refine⟨fun h=>uEu,fun j hj=> ?_⟩;by_cases hji:j=i
  ·subst hji;exact hy.wpOp hi hS ⟨fun _=>hS,H⟩
  ·have h1:=H.2 j (jT hj hji)
   obtain⟨hjun,oj,hoj,hall⟩:=sZ.1 hj;have hifalse:listed.getD i false=false:=by
    exact Ab5
   have hjfalse:listed.getD j false=false:=by
    rcases cZ j listed.size with h'|h'
    ·simp[h']at hjun ⊢;exact hjun
    ·simp[Array.getElem?_eq_none h']
   have hnot:∀e∈oj.after,Region.binds md e=true->e.on≠i:=fun e he hb heq=>by
    have h1:=hall e he hb;rw[heq,hifalse]at h1;cases h1
   have hnU:U.contains j=false:=by
    cases hc:U.contains j with
    |false=>rfl
    |true=>
     rcases hw j hc with h|h
     ·rw[hjfalse]at h;cases h
     ·exact(aAj h hcl hifalse uBu hj).elim
   have h2:=wpOp_putIf hoj (hfree j oj hoj hji hjun hnot) (fun cs b=>hsel i oi cs b hi) (fun cs b=>hsel j oj cs b hoj) hQ hy h1;have hfree':∀k ok,ops[k]? =some ok->k≠i->(listed.setIfInBounds j true).getD k true=false->
     (∀e∈ok.after,Region.binds md e=true->e.on≠i)->oi.apart ops ok=true:=fun k ok hk hki hun hno=>by
    refine hfree k ok hk hki ?_ hno;by_cases hjk:j=k
    ·subst hjk;exact hjun
    ·rw[qU true hjk]at hun;exact hun
   refine aJC (fun a' w' h3=>⟨fun hc=>h3.2.1 hc,ih (listed.setIfInBounds j true) a' w' hfree' (xS hcl hj) (fun k hk=>(hw k hk).imp_left getD_set_true) (jT hr (Ne.symm hji)) h3.1 (h3.2.1 hnU) ?_⟩) h2;rw[pL _ _ hji];exact h3.2.2
def aE9 (md:Region.Mode) (ops:Array Oper) (listed:Array Bool) (U:List Nat) (i:Nat):Bool:=U.all fun j=>listed.getD j false||kD md ops [j] i
theorem aI {i:Nat} {oi:Oper} {v:Value} {fuel:Nat} {listed:Array Bool} {a:Act} {w:World} (hi:ops[i]? =some oi)
  (hs:Region.noSelect ops=true) (hf:Region.free md ops listed i=true) (hr:(Region.ready md ops listed).contains i=true) (hw:(aE9 md ops listed U i&&nJ md ops listed)=true)
  (hQ:∀c a w,Q (.panic c) (a.put oi.dst v) w->Q (.panic c) a w) (hy:YieldsIf P ops S oi v a) (hS:S w)
  (h:dX P md ops Q S U fuel (listed.setIfInBounds i true) (a.put oi.dst v) w):dX P md ops Q S U (fuel+1) listed a w:=
 aCr hi (lA hs) hQ fuel listed a w (oM hi hf) (sL (bI.1 hw).2) (fun j hj=>by
  have h1:=(bI.1 hw).1;unfold aE9 at h1;rw[fO]at h1;have h2:=h1 j uDx;rwa[pR]at h2) uJz hy hS h
theorem tkL (i d:Nat) {x1 x2 x3 x4 x5:_} {v:Value} {fuel:Nat} {listed:Array Bool} {a:Act} {w:World} (hi:ops[i]? =some ⟨some d,x1,x2,x3,x4,x5⟩:=by rfl) (hq:(Region.noSelect ops&&Region.free md ops listed i&&(Region.ready md ops listed).contains i&&(aE9 md ops listed U i&&nJ md ops listed))=true:=by kernel_rfl) (hQ:∀c a w,Q (.panic c) (a.put (some d) v) w->Q (.panic c) a w:=by exact fun _ _ _ h=>h) (hg:Region.wanted ⟨some d,x1,x2,x3,x4,x5⟩ (yielded ops a.tmps)=true:=by rfl) (hv:∀w,S w->(execOp a.eval ⟨some d,x1,x2,x3,x4,x5⟩).run P w=.ok (.value v) w:=by(intro w hSw;(try dsimp only at hSw);first|(go_simp;done)|(go_simp;with_reducible rfl))) (hS:S w:=by assumption) (h:dX P md ops Q S U fuel (listed.setIfInBounds i true) (a.put (some d) v) w):dX P md ops Q S U (fuel+1) listed a w:=
 have h1:=bI.1 hq;have h2:=bI.1 h1.1;have h3:=bI.1 h2.1
 aI hi h3.1 h3.2 h2.2 h1.2 hQ (Or.inl ⟨hg,hv⟩) hS h
theorem tyL (i d:Nat) {x1 x2 x3 x4 x5:_} {v:Value} {fuel:Nat} {listed:Array Bool} {a:Act} {w:World} (hi:ops[i]? =some ⟨some d,x1,x2,x3,x4,x5⟩:=by rfl) (hq:(Region.noSelect ops&&Region.free md ops listed i&&(Region.ready md ops listed).contains i&&(aE9 md ops listed U i&&nJ md ops listed))=true:=by kernel_rfl) (hQ:∀c a w,Q (.panic c) (a.put (some d) v) w->Q (.panic c) a w:=by exact fun _ _ _ h=>h) (hy:YieldsIf P ops S ⟨some d,x1,x2,x3,x4,x5⟩ v a) (hS:S w:=by assumption) (h:dX P md ops Q S U fuel (listed.setIfInBounds i true) (a.put (some d) v) w):dX P md ops Q S U (fuel+1) listed a w:=
 have h1:=bI.1 hq;have h2:=bI.1 h1.1;have h3:=bI.1 h2.1
 aI hi h3.1 h3.2 h2.2 h1.2 hQ hy hS h
theorem aDA {i:Nat} {oi:Oper} {v:Value} {fuel:Nat} {listed:Array Bool} {a:Act} {w:World} (hi:ops[i]? =some oi)
  (hs:Region.noSelect ops=true) (hf:Region.free md ops listed i=true) (hr:(Region.ready md ops listed).contains i=true) (hU:U.contains i=true)
  (hQ:∀c a w,Q (.panic c) (a.put oi.dst v) w->Q (.panic c) a w) (hy:YieldsIf P ops (fun _=>True) oi v a)
  (h:dX P md ops Q S U fuel (listed.setIfInBounds i true) (a.put oi.dst v) w):dX P md ops Q S U (fuel+1) listed a w:=
 aCq hi (lA hs) hQ hU fuel listed a w (oM hi hf) uJz hy h
theorem tkP (i d:Nat) {x1 x2 x3 x4 x5:_} {v:Value} {fuel:Nat} {listed:Array Bool} {a:Act} {w:World} (hi:ops[i]? =some ⟨some d,x1,x2,x3,x4,x5⟩:=by rfl) (hq:(Region.noSelect ops&&Region.free md ops listed i&&(Region.ready md ops listed).contains i&&U.contains i)=true:=by kernel_rfl) (hQ:∀c a w,Q (.panic c) (a.put (some d) v) w->Q (.panic c) a w:=by exact fun _ _ _ h=>h) (hg:Region.wanted ⟨some d,x1,x2,x3,x4,x5⟩ (yielded ops a.tmps)=true:=by rfl) (hv:∀w,(fun _=>True) w->(execOp a.eval ⟨some d,x1,x2,x3,x4,x5⟩).run P w=.ok (.value v) w:=by(intro w _;first|(go_simp;done)|(go_simp;with_reducible rfl))) (h:dX P md ops Q S U fuel (listed.setIfInBounds i true) (a.put (some d) v) w):dX P md ops Q S U (fuel+1) listed a w:=
 have h1:=bI.1 hq;have h2:=bI.1 h1.1;have h3:=bI.1 h2.1
 aDA hi h3.1 h3.2 h2.2 h1.2 hQ (Or.inl ⟨hg,hv⟩) h
end
theorem zV {o:Oper} {a:Act} {w:World} {K:Act->World->Prop} {Q:Exit->Act->World->Prop} (ty:TypeId) (x y:Operand) (ho:o.op=.store ty x y)
  (X k:Nat) (c':Array Value) (hx:a.eval x=.pointer (some ⟨X,k,none⟩)) (hy:a.eval y=.agg c') (T:TypeId) (c:Array Value) (hB:w.heap[X]? =some (.cells c T (0,0)))
  (hi:(Tryz.prog.info? ty).map (·.size)=some c'.size) (hk:k+c'.size<=c.size) (h1:c'.all (·.oneCell')=true) (d:Array Value) (hd:(c.toList.take k++c'.toList++c.toList.drop (k+c'.size)).toArray=d)
  (h:∀w',w'.heap[X]? =some (.cells d T (0,0))->jK X w w'->K (a.put o.dst undef) w'):o.wp Tryz.prog a w K Q:=by
 have:=kZ (P:=Tryz.prog) X k T c'.toList 0 c w hB (by simpa using hk) (fun v hv=>(cO.1 h1) v (by simpa using hv));simp only[kA,bB,hd]at this;have hrun:(storeVar ty ⟨X,k,none⟩ (.agg c')).run Tryz.prog w=.ok () (w.setRow X d):=by
  exact Af4
 unfold Oper.wp execOp;simp only[ho,hx,hy,Instr.storeAt,Instr.sureAddr,fF,fR,cS,hrun];exact h _ (mK w X _ _ _ _ hB) (jA _ _ _)
section
variable {S : Nat → Prop} {w : World} {rc mc : Array Value} {d0 : Value} {N0 : Nat} {sd : Nat} {nn : Int} {lr : List Cel} {L : List Ent}
theorem chg_ins (l:List Cel) (rc1:Array Value) (hr:dS S w rc1 l) (hm:eQ S w sd nn L mc) (p:Nat) (fp:Nat×Nat) (hp:w.heap[p]? =some (.cells rc1 88 fp)) (hrs:rc.size=4) (hms:mc.size=6):Chgs S w rc mc d0 N0 l sd nn L 51 #[.pointer (some ⟨p,0,none⟩)]:=by
 intro W X hW hwX hX;have HP:=iH (kW hW hp);have HR:=iH (hr.old.later hW);have HM:=iH (hm.old.later hW);have HX:=iH hwX;have HZ:=iH (And.intro hrs (And.intro hms hr.size));have HXI:=iH hX;have HO:=iH hr.one;clear hr hm hp hX hwX hW;show Calls Tryz.prog 51 #[.pointer (some ⟨X,0,none⟩),.pointer (some ⟨p,0,none⟩)] W _;go_enter Tryz.func51,Tryz.ntmps51;go_wp2_with (first
  |(refine bR rfl 88 _ rfl p rfl 88 _ _ _ HP.out Tryz.underlying88 rfl (by rw[HZ.out.2.2];exact eL) ?_)
  |(refine aBe rfl 88 _ _ rfl X 0 rc1 rfl rfl 103 _ HXI.out (by rw[HZ.out.2.2];exact eL) (by rw[nW HZ.out.1 HZ.out.2.1,HZ.out.2.2];decide) HO.out _ (aHT HZ.out.1 HZ.out.2.2 _ _) ?_;intro w6 h6 k6))
 go_end0;have hq:Kq (fun g=>S g/\g<w.heap.size) W w6:=Kq.only k6 (fun h=>by have:=h.2;have:=HX.out;omega);exact⟨rfl,rc1,mc,h6,HR.out.imp hq (fun _ h _=>.inl h),HM.out.imp hq.kp (fun _ h _=>.inl h),W,aY _ _,k6⟩
end
end Go.Proofs.YtengibnpebfblaaGreatDoor
