import Derived.Test.YthmfgidbcghnfaaGreatDoorQ0
import Derived.Test.YthmfgidbcghnfaaGreatDoorQ29
import Derived.Test.YthmfgidbcghnfaaGreatDoorQ30
set_option maxRecDepth 1000000
set_option maxHeartbeats 8000000
set_option linter.unusedSimpArgs false
namespace Go.Proofs.YthmfgidbcghnfaaGreatDoor
open Go.RowKit
section
variable {P : Program} {md : Region.Mode} {ops : Array Oper} {Q : Exit → Act → World → Prop} {S : World → Prop} {U : List Nat}
theorem aDz {i:Nat} {oi:Oper} {v:Value} (hi:ops[i]? =some oi) (ob:∀(j:Nat) (o:Oper) cs b,ops[j]? =some o->o.op≠.select cs b)
  (hQ:∀c a w,Q (.panic c) (a.put oi.dst v) w->Q (.panic c) a w) (hU:U.contains i=true):
  ∀(fuel:Nat) (listed:Array Bool) (a:Act) (w:World),
   (∀j oj,ops[j]? =some oj->j≠i->listed.getD j true=false->(∀e∈oj.after,Region.binds md e=true->e.on≠i)->oi.apart ops oj=true)->
   i∈Region.ready md ops listed->YieldsIf P ops (fun _=>True) oi v a->
   eL P md ops Q S U fuel (listed.setIfInBounds i true) (a.put oi.dst v) w->eL P md ops Q S U (fuel+1) listed a w:=by
 intro fuel;induction fuel with
 |zero=>
  intro listed a w _ hr hy H;refine⟨fun h=>uEw,fun j hj=> ?_⟩;by_cases ga:j=i
  ·exact Al5
  ·have:=kN hj ga
   rw[H.1]at this;cases this
 |succ fuel ih=>
  intro listed a w jk hr hy H;refine⟨fun h=>uEw,fun j hj=> ?_⟩;by_cases ga:j=i
  ·exact Al5
  ·have h1:=H.2 j (kN hj ga)
   obtain⟨mg,oj,r8,hall⟩:=xS.1 hj;have dw:listed.getD i false=false:=by
    exact Ab4
   have u7:∀e∈oj.after,Region.binds md e=true->e.on≠i:=fun e he hb heq=>by
    have h1:=hall e he hb;rw[heq,dw]at h1;cases h1
   have h2:=wpOp_putIf r8 (jk j oj r8 ga mg u7) (fun cs b=>ob i oi cs b hi) (fun cs b=>ob j oj cs b r8) hQ hy h1;have ke:∀k ok,ops[k]? =some ok->k≠i->(listed.setIfInBounds j true).getD k true=false->
     (∀e∈ok.after,Region.binds md e=true->e.on≠i)->oi.apart ops ok=true:=fun k ok hk uh Bi ui=>by
    refine jk k ok hk uh ?_ ui;by_cases qt:j=k
    ·subst qt;exact mg
    ·rw[aF9 true qt]at Bi;exact Bi
   refine wpOp_mono (fun a' w' h3=>⟨fun hc=>h3.2.1 hc,ih (listed.setIfInBounds j true) a' w' ke (kN hr (kX ga)) h3.1 ?_⟩) h2;rw[qI _ _ ga];exact h3.2.2
theorem aDA {i:Nat} {oi:Oper} {v:Value} (hi:ops[i]? =some oi) (ob:∀(j:Nat) (o:Oper) cs b,ops[j]? =some o->o.op≠.select cs b)
  (hQ:∀c a w,Q (.panic c) (a.put oi.dst v) w->Q (.panic c) a w):
  ∀(fuel:Nat) (listed:Array Bool) (a:Act) (w:World),
   (∀j oj,ops[j]? =some oj->j≠i->listed.getD j true=false->(∀e∈oj.after,Region.binds md e=true->e.on≠i)->oi.apart ops oj=true)->
   uL md ops listed->(∀j,U.contains j=true->listed.getD j false=true\/kZ md ops [j] i=true)->i∈Region.ready md ops listed->YieldsIf P ops S oi v a->S w->
   eL P md ops Q S U fuel (listed.setIfInBounds i true) (a.put oi.dst v) w->eL P md ops Q S U (fuel+1) listed a w:=by
 intro fuel;induction fuel with
 |zero=>
  intro listed a w _ _ _ hr hy hS H;refine⟨fun h=>uEw,fun j hj=> ?_⟩;by_cases ga:j=i
  ·subst ga;exact hy.wpOp hi hS ⟨fun _=>hS,H⟩
  ·have:=kN hj ga
   rw[H.1]at this;cases this
 |succ fuel ih=>
  intro listed a w jk mq hw hr hy hS H;refine⟨fun h=>uEw,fun j hj=> ?_⟩;by_cases ga:j=i
  ·subst ga;exact hy.wpOp hi hS ⟨fun _=>hS,H⟩
  ·have h1:=H.2 j (kN hj ga)
   obtain⟨mg,oj,r8,hall⟩:=xS.1 hj;have dw:listed.getD i false=false:=by
    exact Ab4
   have Ij:listed.getD j false=false:=by
    rcases eB j listed.size with h'|h'
    ·simp[h']at mg ⊢;exact mg
    ·simp[Array.getElem?_eq_none h']
   have u7:∀e∈oj.after,Region.binds md e=true->e.on≠i:=fun e he hb heq=>by
    have h1:=hall e he hb;rw[heq,dw]at h1;cases h1
   have K6:U.contains j=false:=by
    cases hc:U.contains j with
    |false=>rfl
    |true=>
     rcases hw j hc with h|h
     ·rw[Ij]at h;cases h
     ·exact(aAN h mq dw uAy hj).elim
   have h2:=wpOp_putIf r8 (jk j oj r8 ga mg u7) (fun cs b=>ob i oi cs b hi) (fun cs b=>ob j oj cs b r8) hQ hy h1;have ke:∀k ok,ops[k]? =some ok->k≠i->(listed.setIfInBounds j true).getD k true=false->
     (∀e∈ok.after,Region.binds md e=true->e.on≠i)->oi.apart ops ok=true:=fun k ok hk uh Bi ui=>by
    refine jk k ok hk uh ?_ ui;by_cases qt:j=k
    ·subst qt;exact mg
    ·rw[aF9 true qt]at Bi;exact Bi
   refine wpOp_mono (fun a' w' h3=>⟨fun hc=>h3.2.1 hc,ih (listed.setIfInBounds j true) a' w' ke (yN mq hj) (fun k hk=>(hw k hk).imp_left getD_set_true) (kN hr (kX ga)) h3.1 (h3.2.1 K6) ?_⟩) h2;rw[qI _ _ ga];exact h3.2.2
def aG0 (md:Region.Mode) (ops:Array Oper) (listed:Array Bool) (U:List Nat) (i:Nat):Bool:=U.all fun j=>listed.getD j false||kZ md ops [j] i
theorem kG {i:Nat} {oi:Oper} {v:Value} {fuel:Nat} {listed:Array Bool} {a:Act} {w:World} (hi:ops[i]? =some oi)
  (hs:Region.noSelect ops=true) (hf:Region.free md ops listed i=true) (hr:(Region.ready md ops listed).contains i=true) (hw:(aG0 md ops listed U i&&oM md ops listed)=true)
  (hQ:∀c a w,Q (.panic c) (a.put oi.dst v) w->Q (.panic c) a w) (hy:YieldsIf P ops S oi v a) (hS:S w)
  (h:eL P md ops Q S U fuel (listed.setIfInBounds i true) (a.put oi.dst v) w):eL P md ops Q S U (fuel+1) listed a w:=
 aDA hi (mA hs) hQ fuel listed a w (pR hi hf) (sY (bH.1 hw).2) (fun j hj=>by
  have h1:=(bH.1 hw).1;unfold aG0 at h1;rw[lI]at h1;have h2:=h1 j uGu;rwa[vD]at h2) uNv hy hS h
theorem tkL (i d:Nat) {x1 x2 x3 x4 x5:_} {v:Value} {fuel:Nat} {listed:Array Bool} {a:Act} {w:World} (hi:ops[i]? =some ⟨some d,x1,x2,x3,x4,x5⟩:=by rfl) (hq:(Region.noSelect ops&&Region.free md ops listed i&&(Region.ready md ops listed).contains i&&(aG0 md ops listed U i&&oM md ops listed))=true:=by kernel_rfl) (hQ:∀c a w,Q (.panic c) (a.put (some d) v) w->Q (.panic c) a w:=by exact fun _ _ _ h=>h) (hg:Region.wanted ⟨some d,x1,x2,x3,x4,x5⟩ (yielded ops a.tmps)=true:=by rfl) (hv:∀w,S w->(execOp a.eval ⟨some d,x1,x2,x3,x4,x5⟩).run P w=.ok (.value v) w:=by(intro w jy;(try dsimp only at jy);first|(go_simp;done)|(go_simp;with_reducible rfl))) (hS:S w:=by assumption) (h:eL P md ops Q S U fuel (listed.setIfInBounds i true) (a.put (some d) v) w):eL P md ops Q S U (fuel+1) listed a w:=
 have h1:=bH.1 hq;have h2:=bH.1 h1.1;have h3:=bH.1 h2.1
 kG hi h3.1 h3.2 h2.2 h1.2 hQ (Or.inl ⟨hg,hv⟩) hS h
theorem tyL (i d:Nat) {x1 x2 x3 x4 x5:_} {v:Value} {fuel:Nat} {listed:Array Bool} {a:Act} {w:World} (hi:ops[i]? =some ⟨some d,x1,x2,x3,x4,x5⟩:=by rfl) (hq:(Region.noSelect ops&&Region.free md ops listed i&&(Region.ready md ops listed).contains i&&(aG0 md ops listed U i&&oM md ops listed))=true:=by kernel_rfl) (hQ:∀c a w,Q (.panic c) (a.put (some d) v) w->Q (.panic c) a w:=by exact fun _ _ _ h=>h) (hy:YieldsIf P ops S ⟨some d,x1,x2,x3,x4,x5⟩ v a) (hS:S w:=by assumption) (h:eL P md ops Q S U fuel (listed.setIfInBounds i true) (a.put (some d) v) w):eL P md ops Q S U (fuel+1) listed a w:=
 have h1:=bH.1 hq;have h2:=bH.1 h1.1;have h3:=bH.1 h2.1
 kG hi h3.1 h3.2 h2.2 h1.2 hQ hy hS h
theorem aFe {i:Nat} {oi:Oper} {v:Value} {fuel:Nat} {listed:Array Bool} {a:Act} {w:World} (hi:ops[i]? =some oi)
  (hs:Region.noSelect ops=true) (hf:Region.free md ops listed i=true) (hr:(Region.ready md ops listed).contains i=true) (hU:U.contains i=true)
  (hQ:∀c a w,Q (.panic c) (a.put oi.dst v) w->Q (.panic c) a w) (hy:YieldsIf P ops (fun _=>True) oi v a)
  (h:eL P md ops Q S U fuel (listed.setIfInBounds i true) (a.put oi.dst v) w):eL P md ops Q S U (fuel+1) listed a w:=
 aDz hi (mA hs) hQ hU fuel listed a w (pR hi hf) uNv hy h
theorem tkP (i d:Nat) {x1 x2 x3 x4 x5:_} {v:Value} {fuel:Nat} {listed:Array Bool} {a:Act} {w:World} (hi:ops[i]? =some ⟨some d,x1,x2,x3,x4,x5⟩:=by rfl) (hq:(Region.noSelect ops&&Region.free md ops listed i&&(Region.ready md ops listed).contains i&&U.contains i)=true:=by kernel_rfl) (hQ:∀c a w,Q (.panic c) (a.put (some d) v) w->Q (.panic c) a w:=by exact fun _ _ _ h=>h) (hg:Region.wanted ⟨some d,x1,x2,x3,x4,x5⟩ (yielded ops a.tmps)=true:=by rfl) (hv:∀w,(fun _=>True) w->(execOp a.eval ⟨some d,x1,x2,x3,x4,x5⟩).run P w=.ok (.value v) w:=by(intro w _;first|(go_simp;done)|(go_simp;with_reducible rfl))) (h:eL P md ops Q S U fuel (listed.setIfInBounds i true) (a.put (some d) v) w):eL P md ops Q S U (fuel+1) listed a w:=
 have h1:=bH.1 hq;have h2:=bH.1 h1.1;have h3:=bH.1 h2.1
 aFe hi h3.1 h3.2 h2.2 h1.2 hQ (Or.inl ⟨hg,hv⟩) h
end
theorem aAc {o:Oper} {a:Act} {w:World} {K:Act->World->Prop} {Q:Exit->Act->World->Prop} (ty:TypeId) (x y:Operand) (ho:o.op=.store ty x y)
  (X k:Nat) (c':Array Value) (hx:a.eval x=.pointer (some ⟨X,k,none⟩)) (hy:a.eval y=.agg c') (T:TypeId) (c:Array Value) (hB:w.heap[X]? =some (.cells c T (0,0)))
  (hi:(Tryz.prog.info? ty).map (·.size)=some c'.size) (hk:k+c'.size<=c.size) (h1:c'.all (·.oneCell')=true) (d:Array Value) (hd:(c.toList.take k++c'.toList++c.toList.drop (k+c'.size)).toArray=d)
  (h:∀w',w'.heap[X]? =some (.cells d T (0,0))->iL X w w'->K (a.put o.dst undef) w'):o.wp Tryz.prog a w K Q:=by
 have:=lZ (P:=Tryz.prog) X k T c'.toList 0 c w hB uKw (fun v hv=>(cD.1 h1) v (by simpa using hv));simp only[jV,bM,hd]at this;have cr:(storeVar ty ⟨X,k,none⟩ (.agg c')).run Tryz.prog w=.ok () (w.setRow X d):=by
  exact Af7
 unfold Oper.wp execOp;simp only[ho,hx,hy,Instr.storeAt,Instr.sureAddr,eG,eZ,cR,cr];exact h _ (lY w X _ _ _ _ hB) (iI _ _ _)
theorem aIU {S:Nat->Prop} (w:World) (X:Nat) (rc mc:Array Value) (d:Value) (N0:Nat) (hX:w.heap[X]? =some (.cells (jQ rc mc d N0) 140 (0,0))) (zt:rc.size=4) (yo:mc.size=6) (l:List Cel) (j:Nat) (u:ByteArray) (x:Cel) (hr:cW S w rc l) (hj:j<l.length) (hN:l.length<=200000) (Rz:¬S X):
  Calls Tryz.prog 248 #[.pointer (some ⟨X,0,none⟩),.agg #[.int .i64 0,.int .i64 (j:Int),.string u],.agg (aL x)] w fun r W'=>r=.returned (.tuple #[])/\∃xi,W'.heap[X]? =some (.cells (jQ xi mc d N0) 140 (0,0))/\cW (fun g=>S g\/w.heap.size<=g) W' xi (l.set j x)/\∃W1,Below w.heap.size w W1/\iL X W1 W':=by
 obtain⟨s,hs⟩:∃s:Int,s=0:=⟨_,rfl⟩
 obtain⟨i,hi⟩:∃i:Int,i=(j:Int):=⟨_,rfl⟩
 rw[<-hs,<-hi];obtain⟨w1,ag⟩:∃w1,((w.alloc (.cells #[.int .i64 s,.int .i64 i,.string u] 99)).alloc (.cells (aL x) 37))=w1:=⟨_,rfl⟩
 obtain⟨af,ai,Do,al⟩:=fL ag;have B0:=iH Do;have HB1:=iH af;have cs:w1.cell? ⟨w.heap.size,0,none⟩=some (.int .i64 s):=aG ai rfl;have ci:w1.cell? ⟨w.heap.size,1,none⟩=some (.int .i64 i):=aG ai rfl;have cu:w1.cell? ⟨w.heap.size,2,none⟩=some (.string u):=aG ai rfl;have HC:=iH (And.intro ci cu);have jr:Hid (X<w.heap.size):=(gZ hX)
 have HX1:=iH (kW af hX);have HZ:=iH (And.intro zt yo);have Oq:=iH Rz;have s9:=iH (fun W (hb:Below w1.heap.size w1 W)=>aT2 W (hr.old.later (tW af hb)) j x hj hN);rw[<-hi]at s9;subst hs;clear ai al af hX zt yo Rz Do hr hj hN hi;go_enter Tryz.func248,Tryz.ntmps248;go_upto_region 1 with fail
 clear ag;go_upto_region 2 with fail
 clear cs ci cu;have ar:Hid (∀V,Below w1.heap.size w1 V->V.cell? ⟨w.heap.size,1,none⟩=some (.int .i64 i)/\V.heap[w.heap.size+1]? =some (.cells (aL x) 37 (0,0))/\V.heap[X]? =some (.cells (jQ rc mc d N0) 140 (0,0))):=fun V hV=>⟨dQ HC.out.1 hV,kW hV B0.out,kW hV HX1.out⟩
 have HW:Hid (Below w1.heap.size w1 w1.drew):=aY w1;refine bO (S:=(fun V=>V.cell? ⟨w.heap.size,1,none⟩=some (.int .i64 i)/\V.heap[w.heap.size+1]? =some (.cells (aL x) 37 (0,0))/\V.heap[X]? =some (.cells (jQ rc mc d N0) 140 (0,0)))) [0,10,11,12,13,14] uAu uAw (fun ab=> ?_);refine tkP 0 10 (h:=?_);refine tkL 1 11 (h:=?_);(try simp only[pq]);refine tkL 2 12 (h:=?_);refine tkL 3 13 (h:=?_);(try simp only[pq]);refine tyL 4 14 (hy:=dX uAz 127 _ rfl X 0 rfl rc _ (fun w hw=>(sQ HZ.out.1 hw.2.2)) Tryz.underlying127 rfl uKy) (h:=?_);refine tkL 5 15 (h:=?_);(try simp only[pq]);refine tkL 6 16 (h:=?_);refine tyL 7 17 (hy:=aJ uAz 37 _ rfl (w.heap.size+1) rfl (aL x) 37 (0,0) _ (fun w hw=>hw.2.1) Tryz.underlying37 rfl uCu) (h:=?_);(try simp only[pq]);refine tkO 8 (some 18) (h:=fun K hK=> ?_);go_simp;go_at_call 274;(with_reducible refine(s9.out _ uBx).mono ?_);rintro r w3 ⟨c',rfl,hr,hb⟩;have HR:=iH hr;replace HW:=iH (tW HW.out hb);clear hb hr;dsimp only;refine hK.out _ _ uAw (fun ab=> ?_);clear hK K;(try simp only[pq]);refine tkL 9 9 (h:=?_);refine tkP 10 19 (h:=?_);(try simp only[pq]);refine tkP 11 20 (h:=?_);refine tkP 12 21 (h:=?_);(try simp only[pq]);refine tkP 13 22 (h:=?_);(try simp only[pq]);refine tkU 14 none (h:=fun K hK=> ?_);refine aAc 127 _ _ rfl X 0 c' rfl rfl 140 _ ((HW.out.block _ (by exact(gZ HX1.out))).trans HX1.out) (by rw[cW.size HR.out];exact dM) (by rw[nU HZ.out.1 HZ.out.2,cW.size HR.out];decide) (cW.one HR.out) _ (aG2 HZ.out.1 (cW.size HR.out) _ _) ?_;intro w5 h5 k5;refine hK.out _ _ ?_;clear hK K;(try simp only[pq]);refine bJ uAu ?_ _;clear ab;go_wp2_with fail
 have U1:=jr.out;have Va:=HB1.out.size;have Yu:=HW.out.size;have JY:w1.drew.heap.size=w1.heap.size:=rfl;refine aN (pQ rfl _ _ _) rfl ?_;refine⟨rfl,c',h5,?_,w3,tW HB1.out HW.out,k5⟩;exact HR.out.imp (Kq.only k5 (fun h=>h.elim (fun h=>Oq.out h.1) (fun h=>by omega))) (fun g hg _=>hg.elim (fun h=>.inl h.1) (fun h=>.inr hO))
theorem aBM {S:Nat->Prop} (w:World) (X:Nat) (rc mc:Array Value) (d:Value) (N0:Nat) (hX:w.heap[X]? =some (.cells (jQ rc mc d N0) 140 (0,0))) (zt:rc.size=4) (yo:mc.size=6) (sd:Nat) (nn:Int) (L:List Ent) (s i:Int) (u:ByteArray) (x:Cel) (s8:s≠0) (hm:fG S w sd nn L mc) (An:sd<18446744073709551616) (hL:jX L) (hN:L.length<=50000) (hu:u.size<=9223372036854775800) (hT:iF w) (Rz:¬S X):
  Calls Tryz.prog 248 #[.pointer (some ⟨X,0,none⟩),.agg #[.int .i64 s,.int .i64 i,.string u],.agg (aL x)] w fun r W'=>r=.returned (.tuple #[])/\∃xj,W'.heap[X]? =some (.cells (jQ rc xj d N0) 140 (0,0))/\fG (fun g=>S g\/w.heap.size<=g) W' sd nn (nD L u x) xj/\∃W1,Below w.heap.size w W1/\iL X W1 W':=by
 obtain⟨w1,ag⟩:∃w1,((w.alloc (.cells #[.int .i64 s,.int .i64 i,.string u] 99)).alloc (.cells (aL x) 37))=w1:=⟨_,rfl⟩
 obtain⟨af,ai,Do,al⟩:=fL ag;have B0:=iH Do;have HB1:=iH af;have cs:w1.cell? ⟨w.heap.size,0,none⟩=some (.int .i64 s):=aG ai rfl;have ci:w1.cell? ⟨w.heap.size,1,none⟩=some (.int .i64 i):=aG ai rfl;have cu:w1.cell? ⟨w.heap.size,2,none⟩=some (.string u):=aG ai rfl;have HC:=iH (And.intro ci cu);have jr:Hid (X<w.heap.size):=(gZ hX)
 have HX1:=iH (kW af hX);have HZ:=iH (And.intro zt yo);have Oq:=iH Rz;have s9:=iH (fun W (hb:Below w1.heap.size w1 W)=>aTz W sd An nn L mc u x hu (hm.old.later (tW af hb)) hL hN (hT.below (tW af hb)));clear ai al af hX zt yo Rz Do hm An hL hN hu hT;go_enter Tryz.func248,Tryz.ntmps248;go_upto_region 1 with fail
 clear ag;go_upto_region 3 with fail
 clear cs ci cu;have ar:Hid (∀V,Below w1.heap.size w1 V->V.cell? ⟨w.heap.size,2,none⟩=some (.string u)/\V.heap[w.heap.size+1]? =some (.cells (aL x) 37 (0,0))/\V.heap[X]? =some (.cells (jQ rc mc d N0) 140 (0,0))):=fun V hV=>⟨dQ HC.out.2 hV,kW hV B0.out,kW hV HX1.out⟩
 have HW:Hid (Below w1.heap.size w1 w1.drew):=aY w1;refine bO (S:=(fun V=>V.cell? ⟨w.heap.size,2,none⟩=some (.string u)/\V.heap[w.heap.size+1]? =some (.cells (aL x) 37 (0,0))/\V.heap[X]? =some (.cells (jQ rc mc d N0) 140 (0,0)))) [11] uAu uAw (fun ab=> ?_);refine tkL 0 23 (h:=?_);refine tkL 1 24 (h:=?_);(try simp only[pq]);refine tkL 2 25 (h:=?_);refine tkL 3 26 (h:=?_);(try simp only[pq]);refine tyL 4 27 (hy:=dX uAz 136 _ rfl X 4 rfl mc _ (fun w hw=>(sR HZ.out.1 HZ.out.2 hw.2.2)) Tryz.underlying136 rfl uTx) (h:=?_);refine tkL 5 28 (h:=?_);(try simp only[pq]);refine tkL 6 29 (h:=?_);refine tyL 7 30 (hy:=aJ uAz 37 _ rfl (w.heap.size+1) rfl (aL x) 37 (0,0) _ (fun w hw=>hw.2.1) Tryz.underlying37 rfl uCu) (h:=?_);(try simp only[pq]);refine tkO 8 (some 31) (h:=fun K hK=> ?_);go_simp;go_at_call 115;(with_reducible refine(s9.out _ uBx).mono ?_);rintro r w3 ⟨c',rfl,hr,hb⟩;have HR:=iH hr;replace HW:=iH (tW HW.out hb);clear hb hr;dsimp only;refine hK.out _ _ uAw (fun ab=> ?_);clear hK K;(try simp only[pq]);refine tkL 9 32 (h:=?_);refine tkL 10 33 (h:=?_);(try simp only[pq]);refine tkU 11 none (h:=fun K hK=> ?_);refine aAc 136 _ _ rfl X 4 c' rfl rfl 140 _ ((HW.out.block _ (by exact(gZ HX1.out))).trans HX1.out) (by rw[fG.size HR.out];exact gP) (by rw[nU HZ.out.1 HZ.out.2,fG.size HR.out];decide) (fG.one HR.out) _ (aRL HZ.out.1 HZ.out.2 (fG.size HR.out) _ _) ?_;intro w5 h5 k5;refine hK.out _ _ ?_;clear hK K;(try simp only[pq]);refine bJ uAu ?_ _;clear ab;go_wp2_with fail
 have U1:=jr.out;have Va:=HB1.out.size;have Yu:=HW.out.size;have JY:w1.drew.heap.size=w1.heap.size:=rfl;go_end0;refine⟨rfl,c',h5,?_,w3,tW HB1.out HW.out,k5⟩;exact HR.out.imp (Kq.only k5 (fun h=>h.elim (fun h=>Oq.out h.1) (fun h=>by omega))).kp (fun g hg _=>hg.elim (fun h=>.inl h.1) (fun h=>.inr hO))
theorem aOW {S:Nat->Prop} {W W1 W2:World} {X:Nat} (hb:Below W.heap.size W W1) (k:iL X W1 W2) (hX:¬S X):Kq S W W2:=(Kq.later hb).trans (Kq.only k hX)
section
variable {S : Nat → Prop} {w : World} {rc mc : Array Value} {d0 : Value} {N0 : Nat} {sd : Nat} {nn : Int} {lr : List Cel} {L : List Ent}
theorem aIj (l:List Cel) (j:Nat) (u:ByteArray) (hr:cW S w rc l) (hj:j<l.length) (hN:l.length<=50000) (hm:fG S w sd nn L mc) (p:Nat) (fp:Nat×Nat) (hp:w.heap[p]? =some (.cells #[.int .i64 0,.int .i64 (j:Int),.string u] 99 fp)) (q:Nat) (x:Cel) (fq:Nat×Nat) (hq:w.heap[q]? =some (.cells (aL x) 37 fq)) (zt:rc.size=4) (yo:mc.size=6):aNd S w rc mc d0 N0 (l.set j x) sd nn L 247 #[.pointer (some ⟨p,0,none⟩),.pointer (some ⟨q,0,none⟩)]:=by
 intro W X hW Ff hX;have HC:=iH (aIU W X rc mc d0 N0 hX zt yo l j u x (hr.old.later hW) hj (aI hN hO) (fun h=>by have:=h.2;omega));have HP:=iH (kW hW hp);have HQ:=iH (kW hW hq);have HO:=iH (hm.old.later hW);have HX:=iH Ff;clear hr hm hp hq hX Ff hW;show Calls Tryz.prog 247 #[.pointer (some ⟨X,0,none⟩),.pointer (some ⟨p,0,none⟩),.pointer (some ⟨q,0,none⟩)] W _;go_enter Tryz.func247,Tryz.ntmps247;go_wp2_with (first
  |(refine aW rfl 99 _ rfl p rfl 99 _ _ _ HP.out Tryz.underlying99 rfl dR ?_)
  |(refine aW rfl 37 _ rfl q rfl 37 _ _ _ HQ.out Tryz.underlying37 rfl aF ?_)
  |(go_at_call 248;(with_reducible refine HC.out.mono ?_);rintro r w2 ⟨rfl,h2⟩;have H2:=iH h2;clear h2))
 go_end0;obtain⟨c',h5,hc,W1,hb,k⟩:=H2.out;exact⟨rfl,c',mc,h5,hc,HO.out.imp (aOW hb k (fun h=>by have:=h.2;have:=HX.out;omega)).kp (fun _ h _=>.inl h),W1,hb,k⟩
theorem aIk (s i:Int) (u:ByteArray) (s8:s≠0) (hr:cW S w rc lr) (hm:fG S w sd nn L mc) (An:sd<18446744073709551616) (hL:jX L) (hN:L.length<=50000) (hu:u.size<=9223372036854775800) (hT:iF w) (p:Nat) (fp:Nat×Nat) (hp:w.heap[p]? =some (.cells #[.int .i64 s,.int .i64 i,.string u] 99 fp)) (q:Nat) (x:Cel) (fq:Nat×Nat) (hq:w.heap[q]? =some (.cells (aL x) 37 fq)) (zt:rc.size=4) (yo:mc.size=6):aNd S w rc mc d0 N0 lr sd nn (nD L u x) 247 #[.pointer (some ⟨p,0,none⟩),.pointer (some ⟨q,0,none⟩)]:=by
 intro W X hW Ff hX;have HC:=iH (aBM W X rc mc d0 N0 hX zt yo sd nn L s i u x s8 (hm.old.later hW) An hL hN hu (hT.below hW) (fun h=>by have:=h.2;omega));have HP:=iH (kW hW hp);have HQ:=iH (kW hW hq);have HO:=iH (hr.old.later hW);have HX:=iH Ff;clear hr hm hp hq hX Ff hW;show Calls Tryz.prog 247 #[.pointer (some ⟨X,0,none⟩),.pointer (some ⟨p,0,none⟩),.pointer (some ⟨q,0,none⟩)] W _;go_enter Tryz.func247,Tryz.ntmps247;exact Ab5
theorem aIl (s i:Int) (u:ByteArray) (s8:s≠0) (hr:cW S w rc lr) (hm:fG S w sd nn L mc) (An:sd<18446744073709551616) (hL:jX L) (hN:L.length<=50000) (hu:u.size<=9223372036854775800) (hT:iF w) (p:Nat) (fp:Nat×Nat) (hp:w.heap[p]? =some (.cells #[.int .i64 s,.int .i64 i,.string u] 99 fp)) (q:Nat) (x:Cel) (fq:Nat×Nat) (hq:w.heap[q]? =some (.cells (aL x) 37 fq)) (zt:rc.size=4) (yo:mc.size=6):aNd S w rc mc d0 N0 lr sd nn (nD L u x) 249 #[.pointer (some ⟨p,0,none⟩),.pointer (some ⟨q,0,none⟩)]:=by
 intro W X hW Ff hX;have HC:=iH (aBM W X rc mc d0 N0 hX zt yo sd nn L s i u x s8 (hm.old.later hW) An hL hN hu (hT.below hW) (fun h=>by have:=h.2;omega));have HP:=iH (kW hW hp);have HQ:=iH (kW hW hq);have HO:=iH (hr.old.later hW);have HX:=iH Ff;clear hr hm hp hq hX Ff hW;show Calls Tryz.prog 249 #[.pointer (some ⟨X,0,none⟩),.pointer (some ⟨p,0,none⟩),.pointer (some ⟨q,0,none⟩)] W _;go_enter Tryz.func249,Tryz.ntmps249;exact Ab5
theorem aSa (l:List Cel) (Ik:Array Value) (hr:cW S w Ik l) (hm:fG S w sd nn L mc) (p:Nat) (fp:Nat×Nat) (hp:w.heap[p]? =some (.cells Ik 127 fp)) (zt:rc.size=4) (yo:mc.size=6):aNd S w rc mc d0 N0 l sd nn L 197 #[.pointer (some ⟨p,0,none⟩)]:=by
 intro W X hW Ff hX;have HP:=iH (kW hW hp);have HR:=iH (hr.old.later hW);have HM:=iH (hm.old.later hW);have HX:=iH Ff;have HZ:=iH (And.intro zt (And.intro yo hr.size));have JZ:=iH hX;have HO:=iH hr.one;clear hr hm hp hX Ff hW;show Calls Tryz.prog 197 #[.pointer (some ⟨X,0,none⟩),.pointer (some ⟨p,0,none⟩)] W _;go_enter Tryz.func197,Tryz.ntmps197;go_wp2_with (first
  |(refine aW rfl 127 _ rfl p rfl 127 _ _ _ HP.out Tryz.underlying127 rfl (by rw[HZ.out.2.2];exact dM) ?_)
  |(refine aBY rfl 127 _ _ rfl X 0 Ik rfl rfl 140 _ JZ.out (by rw[HZ.out.2.2];exact dM) (by rw[nU HZ.out.1 HZ.out.2.1,HZ.out.2.2];decide) HO.out _ (aG2 HZ.out.1 HZ.out.2.2 _ _) ?_;intro w6 h6 k6))
 go_end0;have hq:Kq (fun g=>S g/\g<w.heap.size) W w6:=Kq.only k6 (fun h=>by have:=h.2;have:=HX.out;omega);exact⟨rfl,Ik,mc,h6,HR.out.imp hq (fun _ h _=>.inl h),HM.out.imp hq.kp (fun _ h _=>.inl h),W,bB _ _,k6⟩
end
end Go.Proofs.YthmfgidbcghnfaaGreatDoor
