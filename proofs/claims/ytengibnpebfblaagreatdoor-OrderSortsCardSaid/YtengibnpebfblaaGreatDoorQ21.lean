import Derived.Test.YtengibnpebfblaaGreatDoorQ0
import Derived.Test.YtengibnpebfblaaGreatDoorQ18
import Derived.Test.YtengibnpebfblaaGreatDoorQ20
set_option maxRecDepth 1000000
set_option maxHeartbeats 8000000
set_option linter.unusedSimpArgs false
namespace Go.Proofs.YtengibnpebfblaaGreatDoor
open Go.RowKit
theorem aBe {ops:Array Oper} {rest:List Oper} {o:Oper} {a:Act} {w:World} {Q:Exit->Act->World->Prop} (hgd:o.guard=none) (ty:TypeId) (x y:Operand) (ho:o.op=.store ty x y)
  (X k:Nat) (c':Array Value) (hx:a.eval x=.pointer (some ⟨X,k,none⟩)) (hy:a.eval y=.agg c') (T:TypeId) (c:Array Value) (hB:w.heap[X]? =some (.cells c T (0,0)))
  (hi:(Tryz.prog.info? ty).map (·.size)=some c'.size) (hk:k+c'.size<=c.size) (h1:c'.all (·.oneCell')=true) (d:Array Value) (hd:(c.toList.take k++c'.toList++c.toList.drop (k+c'.size)).toArray=d)
  (h:∀w',w'.heap[X]? =some (.cells d T (0,0))->jK X w w'->wpList Tryz.prog ops Q rest (a.put o.dst undef) w'):wpList Tryz.prog ops Q (o::rest) a w:=
 cW hgd fun _ hK=>by
  have:=kZ (P:=Tryz.prog) X k T c'.toList 0 c w hB (by simpa using hk) (fun v hv=>(cO.1 h1) v (by simpa using hv));simp only[kA,bB,hd]at this;have hrun:(storeVar ty ⟨X,k,none⟩ (.agg c')).run Tryz.prog w=.ok () (w.setRow X d):=by
   exact Af4
  unfold Oper.wp execOp;simp only[ho,hx,hy,Instr.storeAt,Instr.sureAddr,fF,fR,cS,hrun];exact Ak6
theorem aHH (x0 x1 x2 y0 y1 y2 z0 z1 z2:Value):((#[x0,x1,x2,y0,y1,y2]:Array Value).toList.take 3++(#[z0,z1,z2]:Array Value).toList++(#[x0,x1,x2,y0,y1,y2]:Array Value).toList.drop (3+(#[z0,z1,z2]:Array Value).size)).toArray=#[x0,x1,x2,z0,z1,z2]:=rfl
theorem aCc:(Tryz.prog.info? 24).map (·.size)=some 2:=by kernel_rfl
theorem aO0 (w:World) (s:Nat) (n:Int) (S:Nat->Prop):
  Calls Tryz.prog 95 #[.agg #[.int .u64 (s:Int),.int .i64 n]] w fun r w'=>∃c,r=.returned (.agg c)/\eQ S w' s n [] c/\Below w.heap.size w w':=by
 obtain⟨w1,hw1⟩:∃w1,(w.alloc (.cells #[.int .u64 (s:Int),.int .i64 n] 24)).alloc (.cells #[.int .u64 0,.int .i64 0,.int .i64 0,.int .u32 0,.slice none 0 0,.slice none 0 0] 98)=w1:=⟨_,rfl⟩
 obtain⟨hb1,hx1,hy1,hs1⟩:=kF hw1;have HX1:=iH hx1;have HY1:=iH hy1;have HB1:=iH hb1;clear hx1 hy1 hb1 hs1;go_enter Tryz.func95,Tryz.ntmps95;go_upto_region 1 with fail
 clear hw1;go_wp2_with (first
  |(refine bR uAz 24 _ rfl w.heap.size rfl 24 _ _ _ HX1.out Tryz.underlying24 rfl aCc ?_)
  |(refine bV rfl 98 _ _ rfl (w.heap.size+1) #[.int .u64 (s:Int),.int .i64 n,.int .i64 0,.int .u32 0,.slice none 0 0,.slice none 0 0] rfl rfl 98 _ HY1.out fV rfl uAy ?_;intro w6 h6 k6))
 exact bF (cE rfl _ _ (w.heap.size+1) 98 _ (0,0) _ rfl h6 Tryz.underlying98 rfl fV) rfl ⟨_,rfl,eQ.zero S _ s n,HB1.out.trans (k6.below uAu)⟩
open Go.Shelf
attribute [local go_sem] fK
theorem aHI:(Tryz.prog.info? 94).map (·.size)=some 1:=by kernel_rfl
theorem aIz {ops:Array Oper} {rest:List Oper} {o:Oper} {a:Act} {w:World} {Q:Exit->Act->World->Prop} {n l:Nat} (hgd:o.guard=none) (ty:TypeId) (x y:Operand) (ho:o.op=.store ty x y)
  (X:Nat) (v:Value) (hx:a.eval x=.pointer (some ⟨X,0,none⟩)) (hy:a.eval y=v) (h1:v.oneCell'=true) (T:TypeId) (u:Value) (hB:Boxed w X T u)
  (hi:(Tryz.prog.info? ty).map (·.size)=some 1)
  (h:∀w',Boxed w' X T v->jK X w w'->wpListIn (Fence.wide.inRound l) n Tryz.prog ops Q rest (a.put o.dst undef) w'):wpListIn (Fence.wide.inRound l) n Tryz.prog ops Q (o::rest) a w:=
 pP hgd (fun c' hc=>by rw[ho]at hc;cases hc) fun _ hK=>pV ty x y ho X v hx hy h1 T u hB hi fun w' h1 h2=>hK _ _ (h w' h1 h2)
theorem aBv {β:Type} {n₀ B:Nat} {w₀:World} (hn:w₀.heap.size<=B) (hn':n₀<=w₀.heap.size):OwnFrom B (fun(_:β) W=>Ap n₀ w₀ W):=fun s W W' row hs hg hr=>
 ⟨hs.below.grown hg (aG hn' hs.below.size) (fun k e=>by have:=(hr k e).1;omega),fun g o hgo ho=>
  (hg.block g (by have:=(gZ hgo);have:=hs.below.size;omega) (fun e=>by have:=(hr g e.symm).1;have:=(gZ hgo);omega)).trans (hs.kept g o hgo ho)⟩
theorem aBY {hs:ByteArray->Nat} {S:Nat->Prop} {A C:World} {b:Nat} {e:Ent} {row:Option Nat} (h:jI hs S A b e) (hg:A.grownBy C row) (hr:∀r,row=some r->∃o:Obj,A.heap[r]? =some o/\o.isCells=false):jI hs S C b e:=by
 obtain⟨h1,fr,h2⟩:=h;exact⟨h1,fr,oS h2 hg hr⟩
def aHm (hs:ByteArray->Nat) (S:Nat->Prop) (n₀:Nat) (w:World) (ps:List Nat) (L:List Ent) (r:Ending) (w':World):Prop:=
 ∃(v':Value) (qs:List (Nat×Ent)),r=.returned v'/\(qs.map (·.2)).Perm L/\(∀q∈qs,jI hs S w' q.1 q.2)/\Eps n₀ v' (ps++qs.map (·.1)) w'/\Ap n₀ w w'
def AppI (hs:ByteArray->Nat) (S:Nat->Prop) (n₀:Nat) (w:World) (ps:List Nat) (c:Array Value) (L:List Ent) (V:World):Prop:=
 ((∃(a5:Option Addr) (m5 c5:Nat) (qs5:List (Nat×Ent)),Boxed V (w.heap.size+1) 94 (.slice a5 m5 c5)/\Eps n₀ (.slice a5 m5 c5) (ps++qs5.map (·.1)) V/\(qs5.map (·.2)).Perm L/\∀q∈qs5,jI hs S V q.1 q.2)/\V.heap[w.heap.size]? =some (.cells c 96 (0,0)))/\Ap n₀ w V
def aLY (hs:ByteArray->Nat) (f:Nat):Prop:=∀(S:Nat->Prop) (n₀:Nat) (w:World) (L:List Ent) (c:Array Value) (v:Value) (ps:List Nat),(∀g,S g->g<n₀)->1<n₀->dF hs S f w L c->L.length<=50000->Eps n₀ v ps w->ps.length+2000000*f+2000000<=100000000->fW w->
  Calls Tryz.prog 123 #[.agg c,v] w (aHm hs S n₀ w ps L)
theorem aAu (hs:ByteArray->Nat) (f:Nat) (S:Nat->Prop) (n₀:Nat) (w:World) (v:Value) (ps:List Nat) (b:Nat) (va:Option Addr) (vn vc:Nat) (la:Option Addr) (ln lc:Nat) (R:Rg Pl) (M:Nat->List Ent) (qs:List (Nat×Ent)) (hS:∀g,S g->g<n₀) (ht:1<n₀)
  (hrow:AtR S w R #[.int .u32 (b:Int),.slice va vn vc]) (hl:bZ S w 1 (.slice la ln lc) (en enE (qs.map (·.1))) (qs.map (·.1)).length) (hq:∀q∈qs,jI hs S w q.1 q.2) (hqn:qs.length<=50000) (hpl:∀i,i<32->oY hs S w (dF hs S f w) (M i) (R i)) (hMn:∀i,(M i).length<=50000)
  (hrec:iR R=[]\/(aLY hs f/\ps.length+2000000*(f+1)+2000000<=100000000)) (heps:Eps n₀ v ps w) (hps:ps.length<=100000000) (hT:fW w):
  Calls Tryz.prog 123 #[.agg #[.int .u32 (b:Int),.slice va vn vc,.slice la ln lc],v] w (aHm hs S n₀ w ps ((iR R).flatMap (fun x=>M x.1)++qs.map (·.2))):=by
 obtain⟨va0,vc0,rfl⟩:=heps.len;have hn₀:=heps.2;have hb':eS R 32=b:=by
  obtain⟨v',e,_⟩:=hrow;simp only[gK,eH,Value.int.injEq,aAz]at e;omega
 have HPL:Hid (aCf n₀ w (.slice va vn vc) (nG R)):=by
  obtain⟨v',e,h2⟩:=hrow;simp only[gK,eH]at e;rw[<-e.2.1]at h2;exact aKF h2 hS
 have HTT:=iH hT;have HPLA:=iH hpl;have HLC:=iH hl;have HQ:=iH hq;have HQN:=iH hqn;have HMN:=iH hMn;have HREC:=iH hrec;have HEPS:=iH heps;have HPS:=iH hps;have HS:=iH hS;have HALL:=iH (fun b v w=>cY.1 (aD0 5 b v w));obtain⟨w1,hw1⟩:∃w1,(w.alloc (.cells #[.int .u32 (b:Int),.slice va vn vc,.slice la ln lc] 96)).alloc (.cells #[.slice va0 ps.length vc0] 94)=w1:=⟨_,rfl⟩
 obtain⟨hb1,hx1,hy1,hs1⟩:=kF hw1;have HX1:=iH hx1;have HY1:=iH hy1;have HB1:=iH hb1;have HS1:=iH hs1;clear hrow hl hq hqn hpl hMn hrec heps hps hT hS hx1 hy1 hb1 hs1;refine(cY (n:=5)).1 ?_;refine eW Tryz.func123 rfl trivial ?_ rfl;refine gH.2 ?_;simp only[Tryz.ntmps123,cA,aL,bG,Nat.reduceAdd,Nat.reduceSub,bY,bW,cM,cD,bD,bC];go_upto_region 1 with fail
 go_wp2_with (first
  |(refine dA rfl 93 _ rfl w.heap.size 0 rfl [.int .u32 (b:Int),.slice va vn vc] _ (jM HX1.out) Tryz.underlying93 rfl iP ?_)
  |(go_at_call 138;refine(HALL.out _ _ _).mono ?_;rintro e w' ⟨rfl,rfl⟩))
 obtain⟨RB,hRB⟩:∃RB,RB=w1.heap.size:=⟨_,rfl⟩
 have hRB2:RB=w.heap.size+2:=by rw[hRB,HS1.out]
 obtain⟨W0,hW0⟩:∃W0,w1.alloc (.cells #[.int .u32 (b:Int),.slice va vn vc] 93)=W0:=⟨_,rfl⟩
 obtain⟨hb0,hr0,hs0⟩:=aGV hW0;rw[hW0];rw[<-hRB]at hr0 hs0;have hA0:Ap n₀ w W0:=(Ap.later HB1.out hn₀).trans (Ap.later hb0 uAu);have hX0:=(hb0.block _ uAu).trans HX1.out;have hL0:Boxed W0 (w.heap.size+1) 94 (.slice va0 ps.length vc0):=(hb0.block _ uAu).trans HY1.out;have hE0:Eps n₀ (.slice va0 ps.length vc0) (ps++([]:List (Nat×Ent)).map (·.1)) W0:=by rw[iL,mX];exact HEPS.out.later (tW HB1.out hb0)
 clear hW0 hb0 hw1;refine(gH (n:=5)).1 ?_;refine wpIn_rangeFunc_ownH (F:=Fence.wide) rfl uAu (gf:=152) (lb:=#[.pointer (some ⟨w1.heap.size,0,none⟩)]) rfl trivial (lX Tryz.func152 hO rfl)
  (aCC 4 uAu w1.heap.size n₀ R _ W0 uAu uAu ht (by rw[hb',<-hRB];exact aK hr0 rfl) (by rw[<-hRB];exact aK hr0 rfl) (HPL.out.below hA0.below) (hA0.tab ht HTT.out)) belowK_t (belowK_b uAu) (aY _ _) (fun _=>rfl)
  (fun pre V=>AppI hs S n₀ w ps #[.int .u32 (b:Int),.slice va vn vc,.slice la ln lc] (pre.flatMap fun x=>M x.1.1) V)
  (fun _ _ _=>False)
  (fun s A B row hs' hg hr=>by
   obtain⟨⟨⟨a5,m5,c5,qs5,h1,h2,h3,h4⟩,h5⟩,h6⟩:=hs';have hr':=fun r e=>(hr r e).2
   exact⟨⟨⟨a5,m5,c5,qs5,pQ h1 hg hr',aFW h2 hg hr',h3,fun q hq=>aBY (h4 q hq) hg hr'⟩,oS h5 hg hr'⟩,aBv (β:=Unit) uAu hn₀ () A B row h6 hg hr⟩)
  (fun _ _ _ _ _ hs' _ _=>hs')
  ⟨⟨⟨va0,ps.length,vc0,[],hL0,hE0,by simp,by simp⟩,hX0⟩,hA0⟩
  (fun x a' V=>∃Bx,w.heap.size+2<=Bx/\V.heap[Bx]? =some (.cells (plc x.1.2) 186 (0,0))/\a'={tmps:=#[.agg #[.int .u32 (b:Int),.slice va vn vc,.slice la ln lc],.slice va0 ps.length vc0,.pointer (some ⟨w.heap.size,0,none⟩),.pointer (some ⟨w.heap.size+1,0,none⟩),.slice none 0 0,undef,.pointer (some ⟨Bx,0,none⟩),.pointer (some ⟨w.heap.size,0,none⟩),.agg #[.int .u32 (b:Int),.slice va vn vc],.func (.func 152) #[] #[.pointer (some ⟨w1.heap.size,0,none⟩)],.int .i64 (x.1.1:Int),.agg (plc x.1.2),undef,undef,undef,undef,undef,undef,undef,undef,undef,undef,undef,undef,undef,undef,undef,undef,undef,undef],defers:=[]})
  (fun x a'=>Own.from (fun s A B row hs' hg hr=>by obtain⟨Bx,h1,h2,h3⟩:=hs';exact⟨Bx,h1,oS h2 hg hr,h3⟩) _)
  ?assign ?body ?done ?stop
 case assign=>
  rintro l pre x V K ⟨⟨⟨a5,m5,c5,qs5,h1,h2,h3,h4⟩,h5⟩,hA⟩ hK;gi_wp2_with (refine aNq rfl 186 _ _ rfl V.heap.size (plc x.1.2) rfl rfl 186 (plc (none,none)) (aF _ _) dJ rfl (gM x.1.2) ?_;intro w5 h5' k5;have hb5:Below V.heap.size V w5:=(Below.newly' _ _).trans (k5.below (aE _)))
  exact hK _ _ (((KeepsOthers.alloc V _).trans (jV k5 (aF _ _))).from _) (hb5.mono h2.2) ⟨⟨⟨a5,m5,c5,qs5,(hb5.block _ h1.lt).trans h1,h2.later hb5,h3,fun q hq=>(h4 q hq).later hb5⟩,kW hb5 h5⟩,hA.trans (Ap.later hb5 h2.2)⟩ ⟨V.heap.size,by have:=h1.lt;omega,h5',rfl⟩
 case body=>
  rintro l pre x a' V hl ⟨r,hr⟩ ⟨⟨⟨a5,m5,c5,qs5,hL,hE,hP,hQ⟩,hX⟩,hA⟩ ⟨Bx,hBx,bX,rfl⟩ hlt;obtain⟨⟨i,p⟩,hx⟩:=x;obtain⟨hi,hri⟩:=aGf hx;simp only at hi hri bX;have hapf:aLY hs f/\ps.length+2000000*(f+1)+2000000<=100000000:=by
   rcases HREC.out with h|h
   ·rw[h]at hx;cases hx
   ·exact h
  have hpl:=HPLA.out i hi;rw[hri]at hpl;have hkp:Kp S w V:=hA.kp HS.out;have hlen5:qs5.length<=1600000:=by
   have h1:=hP.length_eq;rw[aH]at h1;have h2:∀l:List {x:Nat×Pl//x∈iR R},(l.flatMap fun x=>M x.1.1).length<=l.length*50000:=by
    exact Ag3
   have h3:=h2 pre;have h4:(iR R).length<=32:=by rw[qP];exact zH R 32
   have h5:pre.length*50000<=32*50000:=dE _ uAu;omega
  have hlen6:(ps++qs5.map (·.1)).length+2000000*f+2000000<=100000000:=by
   have:=hapf.2;rw[aD,aH];omega
  have hMi:=HMN.out i;obtain⟨Mi,hMie⟩:∃Mi,Mi=M i:=⟨_,rfl⟩
  have HPM:Hid (∀qs6:List (Nat×Ent),(qs6.map (·.2)).Perm Mi->((qs5++qs6).map (·.2)).Perm ((pre++[(⟨(i,p),hx⟩:{x:Nat×Pl//x∈iR R})]).flatMap fun x:{x:Nat×Pl//x∈iR R}=>M x.1.1)):=fun qs6 h=>by
   rw[bQ,gF];refine hP.append ?_;rw[hMie]at h;simpa using h
  rw[<-hMie]at hpl hMi;have HA:=iH hA;have HL5:=iH hL;have HXN:=iH hX;have HBX:=iH bX;have HQ5:=iH hQ;have HE5:=iH hE;have cL:=hL.cell;have hLlt:=hL.lt;clear hMie
  match Mi,hpl,hMi,HPM with
  |[],hpl,_,_=>cases hpl
  |[e],hpl,hMi,HPM=>
   obtain⟨b1,hp,he⟩:=hpl;obtain rfl:=aN hp;have HE1:=iH (hE.later (Below.newly' V (.cells #[.pointer (some ⟨b1,0,none⟩)] 161)));have HEN:=iH (he.kp hkp);have cx0:V.cell? ⟨Bx,0,none⟩=some (.pointer (some ⟨b1,0,none⟩)):=aK bX rfl;have cx1:V.cell? ⟨Bx,1,none⟩=some (.pointer none):=aK bX rfl;have hcx0:(V.alloc (.cells #[.pointer (some ⟨b1,0,none⟩)] 161)).cell? ⟨Bx,0,none⟩=some (.pointer (some ⟨b1,0,none⟩)):=((Below.newly' V _).cell (p:=⟨Bx,0,none⟩) (gZ bX)).trans cx0;have HB5:=iH hlen6;clear hL hE hP hQ hX hA bX hpl hri hr hapf hkp hlen5 hlen6 hMi hp he hX0 hL0 hr0 hA0 hE0 hs0;gi_wp2_with (first
    |(refine aO7 rfl _ _ rfl (v:=.slice a5 m5 c5) rfl HE1.out (rs:=[b1]) rfl (aHa (aF V _)) (by have:=HB5.out;have:[b1].length=1:=rfl;omega) ?_;intro v6 w6 he6 ha6;obtain⟨a6,c6,rfl⟩:=he6.len;have HE6:=iH he6;have HA6:=iH ((Ap.later (Below.newly' V (.cells #[.pointer (some ⟨b1,0,none⟩)] 161)) HE5.out.2).trans ha6);have HL6:Hid (Boxed w6 (w.heap.size+1) 94 (.slice a5 m5 c5)):=HA6.out.row HL5.out uAv;obtain⟨m6,hm6⟩:∃m6,m6=(ps++qs5.map (·.1)++[b1]).length:=⟨_,rfl⟩;rw[<-hm6]at HE6 ⊢;clear he6 ha6 hm6)
    |(refine aIz rfl 94 _ _ rfl (w.heap.size+1) (.slice a6 m6 c6) rfl rfl rfl 94 _ HL6.out aHI ?_;intro w7 h7 k7))
   have hbv:Below n₀ V w7:=HA6.out.below.trans (k7.below uAu);refine⟨(HA6.out.keeps.trans (jV k7 HL6.out)).from _,hbv,⟨⟨⟨a6,m6,c6,qs5++[(b1,e)],h7,?_,HPM.out [(b1,e)] uBu,fun q hq=> ?_⟩,k7.other (HA6.out.row HXN.out uAv) uAu⟩,(HA.out.trans HA6.out).wrote k7 uAu hn₀⟩⟩
   ·exact Ai5
   ·rcases cP.1 hq with hq|hq
    ·exact(HQ5.out q hq).kp (Kp.low hbv HS.out)
    ·rw[cB]at hq
     subst hq;exact HEN.out.kp (Kp.low hbv HS.out)
  |m1::m2::M2,hpl,hMi,HPM=>
   obtain⟨g,cg,fr,hp,hSg,hgw,hnd⟩:=hpl;obtain rfl:=aN hp;have hgV:V.heap[g]? =some (.cells cg 96 fr):=hkp g _ hSg ⟨_,_,_,rfl,.inr (.inl rfl)⟩ hgw;have HG5:=iH hgV;have HSZ:=iH hnd.size;have HD1:=iH (bE V);have HAD:=iH (Ap.later (bE V) HE5.out.2);have HC:=iH (hapf.1 S n₀ V.drew (m1::m2::M2) cg (.slice a5 m5 c5) (ps++qs5.map (·.1)) HS.out ht (hnd.kp (hkp.trans (Kp.later (bE V)))) hMi (hE.later (bE V)) hlen6 ((hA.trans HAD.out).tab ht HTT.out));have cx1:V.cell? ⟨Bx,1,none⟩=some (.pointer (some ⟨g,0,none⟩)):=aK bX rfl;have HK1:Hid (V.drew.cell? ⟨Bx,1,none⟩=some (.pointer (some ⟨g,0,none⟩))/\V.drew.heap[g]? =some (.cells cg 96 fr)/\V.drew.cell? ⟨w.heap.size+1,0,none⟩=some (.slice a5 m5 c5)):=⟨cx1,hgV,cL⟩
   clear hL hE hP hQ hX hA bX hpl hri hr hapf hkp hlen5 hlen6 hMi hp hnd hgw hX0 hL0 hr0 hA0 hE0 hs0 hgV;gi_wp2
   refine rB (S:=(fun V'=>V'.cell? ⟨Bx,1,none⟩=some (.pointer (some ⟨g,0,none⟩))/\V'.heap[g]? =some (.cells cg 96 fr)/\V'.cell? ⟨w.heap.size+1,0,none⟩=some (.slice a5 m5 c5))) [6] hO hO (fun⟨_,_,h⟩=>h) uJy (fun hHeld=> ?_);refine tkA 0 15 (h:=?_);refine tkA 1 16 (h:=?_);(try simp only[pq]);refine tkA 2 17 (h:=?_);refine tyA 3 18 (hy:=aP uAz 96 _ rfl g rfl cg 96 _ _ (fun w hw=>hw.2.1) Tryz.underlying96 rfl (by rw[HSZ.out];exact iI)) (h:=?_);(try simp only[pq]);refine tkA 4 19 (h:=?_);(try simp only[pq]);refine tkO 5 (some 20) (h:=fun K hK=> ?_);go_simp;go_at_call 123;refine HC.out.mono ?_;rintro r w6 ⟨v6,qs6,rfl,hp6,hq6,he6,ha6⟩;obtain⟨a6,c6,rfl⟩:=he6.len;have HP6:=iH hp6;have HQ6:=iH hq6;have HE6:=iH he6;have HA6:=iH ha6;have HL6:Hid (Boxed w6 (w.heap.size+1) 94 (.slice a5 m5 c5)):=ha6.row (a:=V.drew) HL5.out uAv;have HX6:Hid (w6.heap[Bx]? =some (.cells (plc (none,some g)) 186 (0,0))):=ha6.row (a:=V.drew) HBX.out uAv;have HG6:Hid (w6.heap[g]? =some (.cells cg 96 fr)):=ha6.row (a:=V.drew) HG5.out uAv;obtain⟨m6,hm6⟩:∃m6,m6=(ps++qs5.map (·.1)++qs6.map (·.1)).length:=⟨_,rfl⟩
   rw[<-hm6]at HE6 ⊢;clear hp6 hq6 he6 ha6 hm6;dsimp only;refine hK.out _ _ uJy (fun hHeld=> ?_);clear hK K;(try simp only[pq]);refine tkU 6 none (h:=fun K hK=> ?_);rw[if_pos uAz];refine pV 94 _ _ rfl (w.heap.size+1) (.slice a6 m6 c6) rfl rfl rfl 94 _ HL6.out aHI ?_;intro w7 h7 k7;refine hK.out _ _ ?_;clear hK K;(try simp only[pq]);refine bK hO ?_ _;have hav:Ap n₀ V w6:=HAD.out.trans HA6.out;have hbv:Below n₀ V w7:=hav.below.trans (k7.below uAu);refine⟨(hav.keeps.trans (jV k7 HL6.out)).from _,hbv,⟨⟨⟨a6,m6,c6,qs5++qs6,h7,?_,HPM.out qs6 HP6.out,fun q hq=> ?_⟩,k7.other (hav.row HXN.out uAv) uAu⟩,(HA.out.trans hav).wrote k7 uAu hn₀⟩⟩
   ·exact Ai5
   ·rcases cP.1 hq with hq|hq
    ·exact(HQ5.out q hq).kp (Kp.low hbv HS.out)
    ·exact(HQ6.out q hq).kp (Kp.low (k7.below uAu) HS.out)
 case done=>
  rintro D ys V hD hys ⟨⟨⟨a5,m5,c5,qs5,hL,hE,hP,hQ⟩,hX⟩,hA⟩ hK;have cL:=hL.cell;have cn2:V.cell? ⟨w.heap.size,2,none⟩=some (.slice la ln lc):=aK hX rfl;have HE:=iH hE;have HA:=iH hA;have HK:=iH hK;have HQ5:=iH hQ;have HP5:=iH hP;have HCV:=iH (HLC.out.low hA.below HS.out);have HLN:Hid ((ps++qs5.map (·.1)).length+(qs.map (·.1)).length<=17592186044416):=by
   show _<=_;have h1:=hP.length_eq;rw[aH]at h1;have h2:∀l:List {x:Nat×Pl//x∈iR R},(l.flatMap fun x=>M x.1.1).length<=l.length*50000:=by
    exact Ag3
   have h3:=h2 ys;have h4:(iR R).length<=32:=by rw[qP];exact zH R 32
   have h6:ys.length<=32:=by rw[<-hys,aH]at h4;exact h4
   have h5:ys.length*50000<=32*50000:=dE _ h6;have:=HPS.out;have:=HQN.out;rw[aD,aH,aH];omega
  have HYS:Hid ((iR R).flatMap (fun x=>M x.1)=ys.flatMap fun x=>M x.1.1):=by
   have h:=bH (List.flatMap (fun x:Nat×Pl=>M x.1)) hys;rw[List.flatMap_map]at h;exact h.symm
  clear hL hE hP hQ hX hA hK hX0 hL0 hr0 hA0 hE0 hys;go_wp2_with (first
   |(refine aLw rfl _ _ rfl (v:=.slice a5 m5 c5) rfl HE.out (rs:=qs.map (·.1)) rfl HCV.out HLN.out ?_;intro v6 w6 he6 ha6;obtain⟨a6,c6,rfl⟩:=he6.len;obtain⟨m6,hm6⟩:∃m6,m6=(ps++qs5.map (·.1)++qs.map (·.1)).length:=⟨_,rfl⟩;rw[<-hm6]at he6 ⊢;clear hm6))
  have hK6:w6.heap[D]? =some (.deferred (some [])):=ha6.kept D _ HK.out (fun _ _ e=>by cases e);have hgp:=eM w6 D (.deferred none);have hA6:=HA.out.trans ha6;have hkr:∀r,some D=some r->∃o:Obj,w6.heap[r]? =some o/\o.isCells=false:=fun r e=>by cases e;exact⟨_,hK6,rfl⟩
  refine⟨by simp[Act.put],.inl ⟨_,_,rfl,jC hK6,.slice a6 m6 c6,by simp[results,Tryz.f123,go_sem],_,qs5++qs,rfl,?_,fun q hq=> ?_,?_,?_⟩⟩
  ·rw[bQ,HYS.out]
   exact HP5.out.append_right _
  ·rcases cP.1 hq with hq|hq
   ·exact aBY ((HQ5.out q hq).kp (Kp.low ha6.below HS.out)) hgp hkr
   ·exact aBY ((HQ.out q hq).kp (hA6.kp HS.out)) hgp hkr
  ·rw[bQ,<-bN]
   exact aFW he6 hgp hkr
  ·exact aBv (β:=Unit) (B:=w.heap.size) (aE _) hn₀ () _ _ (some D) hA6 hgp (fun r e=>by cases e;exact⟨by omega,_,hK6,rfl⟩)
 case stop=>
  rintro D k pre V _ _ h _;exact h.elim
theorem aDj {α β:Type} (R:Nat->Option α) (M:Nat->List β):∀l:List Nat,(∀i∈l,R i=none->M i=[])->((l.filterMap fun i=>(R i).map fun x=>(i,x)).flatMap fun x=>M x.1)=l.flatMap M
 |[],_=>rfl
 |i::l,h=>by
  have ih:=aDj R M l (fun j hj=>h j (aU _ hj));cases hr:R i with
  |none=>
   rw[List.filterMap_cons_none (by rw[hr];rfl),ih,cN,h i (aW ..) hr,bD]
  |some x=>
   rw[List.filterMap_cons_some (b:=(i,x)) (by rw[hr];rfl),cN,ih,cN]
theorem aLl (hs:ByteArray->Nat):∀f,f<=13->aLY hs f
 |0,_=>fun S n₀ w L c v ps hS ht h hn he hp hT=>by
  obtain⟨vl,qs,rfl,h2,rfl,h4⟩:=h;rw[aH]at h2 hn;obtain⟨la,lc,rfl,_⟩:=h2.head.shape;have h:=aAu hs 0 S n₀ w v ps 0 none 0 0 la qs.length lc noG (fun _=>[]) qs hS ht (AtR.zero S w) (by rw[aH];exact h2.head.cut) h4 hn (fun i _=>rfl) (fun _=>by simp) (.inl rfl) he uAu hT;exact h
 |f+1,hf=>fun S n₀ w L c v ps hS ht h hn he hp hT=>by
  obtain⟨b0,vr,R,rfl,hrow,hpl⟩:=h.row;obtain⟨bb,va,vn,vc,e⟩:=hrow.parts;simp only[gK,eH]at e;obtain⟨rfl,rfl,_⟩:=e;have h:=aAu hs f S n₀ w v ps bb va vn vc none 0 0 R (fun i=>chE hs (12-f) i L) [] hS ht hrow ⟨none,0,rfl,aE _,rfl,.inl ⟨rfl,rfl⟩⟩ (fun q hq=>by cases hq) uBu hpl (fun i=>aG aAb hn) (.inr ⟨aLl hs f uAu,by omega⟩) he uAu hT;refine h.mono ?_;rintro r w' ⟨v',q2,h1,h2,h3⟩;refine⟨v',q2,h1,h2.trans ?_,h3⟩;rw[iL,mX];unfold iR;rw[aDj R (fun i=>chE hs (12-f) i L) _ (fun i hi hr=>by
   have hp:=hpl i (fL.1 hi);rw[hr]at hp;cases hc:chE hs (12-f) i L with
   |nil=>rfl
   |cons a t=>
    rw[hc]at hp;cases t with
    |nil=>obtain⟨_,h,_⟩:=hp;cases h
    |cons b t=>obtain⟨_,_,_,h,_⟩:=hp;cases h)]
  exact aI1 hs (12-f) L
end Go.Proofs.YtengibnpebfblaaGreatDoor
namespace Go.Proofs.YtengibnpebfblaaGreatDoor
open Go.RowKit
theorem aN3 (s:ByteArray) (k:Nat) (h:k<s.size):s.extract k (k+1)=⟨#[s[k]]⟩:=by
 apply nA;apply mD.1;have h1:(s.extract k (k+1)).data.toList=(s.data.toList.drop k).take 1:=by
  simp[ByteArray.data_extract]
 rw[h1,dZ uDw];rfl
theorem aG4 (s:ByteArray) (k:Nat) (h:k<s.size):nI (s.data.toList.take (k+1))=nI (s.data.toList.take k)++rR s[k]:=by
 rw[xI s k h];simp[nI]
theorem aFg (s:ByteArray) (w:World) (hs:s.size<=1000000):
  Calls Tryz.prog 99 #[.string s] w fun e w'=>e=.returned (.string ⟨(nI s.data.toList).toArray⟩)/\w'=w:=by
 go_enter Tryz.func99,Tryz.ntmps99;go_wp2
 go_loopw [3,7] (fun x n wl=>∃(k:Nat) (txt:List UInt8),k<=s.size/\n=.int .i64 k/\x=.string ⟨txt.toArray⟩/\txt=nI (s.data.toList.take k)/\wl=w) (fun _ n _=>s.size-(intOf n).toNat)
 case atStart=>exact⟨0,[],aQ _,rfl,rfl,by simp[nI],rfl⟩
 case round=>
  obtain⟨k,txt,hk,rfl,rfl,ht,rfl⟩:=hrel;have htl:txt.length<=2000000:=by
   have h:=aAX (s.data.toList.take k);rw[ht];have h2:(s.data.toList.take k).length<=1000000:=by rw[aV];omega
   omega
  have HT:=iH ht;clear ht;by_cases h1:k<s.size
  ·have hcut:=aN3 s k h1
   have HCT:=iH (aG4 s k h1);by_cases h0:s[k]=0
   ·have h0':(s[k].toNat:Int)=0:=by rw[h0];rfl
    go_wp2_with fail
    go_roundw
    case rel=>exact⟨k+1,txt++[0]++[255],by omega,by go_num,by rw[<-qL,<-qL],by rw[HCT.out,HT.out,h0];simp[rR],trivial⟩
    case measure=>simp[intOf];omega
   ·have h0':¬(s[k].toNat:Int)=0:=fun e=>h0 (uE.1 (by simpa using e))
    go_wp2_with fail
    go_roundw
    case rel=>exact⟨k+1,txt++[s[k]],by omega,by go_num,by rw[<-qL],by rw[HCT.out,HT.out];simp[rR,h0],trivial⟩
    case measure=>simp[intOf];omega
  ·have e:Hid (s.data.toList.take k=s.data.toList):=aZ uGv
   rw[e.out]at HT;have HT2:=iH HT.out;clear HT e;go_wp2_with fail
   go_ret;exact⟨by rw[<-HT2.out];rfl,rfl⟩
theorem aFf (k n:Int) (t:ByteArray) (w:World) (hn:InR n) (ht:t.size<=1000000):
  Calls Tryz.prog 67 #[scV k n t] w fun e w'=>e=.returned (.string ⟨(kX (k,n,t.data.toList)).toArray⟩)/\Below w.heap.size w w':=by
 have hb0:Below w.heap.size w (w.alloc (.cells #[.int .i64 k,.int .i64 n,.string t] 32)):=Below.newly' w _;have HN:=iH hb0;have HC:=iH (fun W=>aBm k n t W);have hcov:=aAX t.data.toList;rw[eY]at hcov;have HCL:=iH hcov;have HV:=iH (fun W=>aFg t W ht);have HB:=iH (fun W=>aIQ n W hn);clear hn hb0 hcov;by_cases hc:fH (k,n,t.data.toList)=0
 ·have key:∀(W:World),Below (w.alloc (.cells #[.int .i64 k,.int .i64 n,.string t] 32)).heap.size (w.alloc (.cells #[.int .i64 k,.int .i64 n,.string t] 32)) W->
    W.cell? ⟨w.heap.size,0,none⟩=some (.int .i64 k)/\W.cell? ⟨w.heap.size,1,none⟩=some (.int .i64 n)/\W.cell? ⟨w.heap.size,2,none⟩=some (.string t)/\Below w.heap.size w W:=fun W h=>
   ⟨(h.cell (p:=⟨w.heap.size,0,none⟩) uBu).trans uBu,(h.cell (p:=⟨w.heap.size,1,none⟩) uBu).trans uBu,(h.cell (p:=⟨w.heap.size,2,none⟩) uBu).trans uBu,tW HN.out h⟩
  have KEY:=iH key;clear key;rcases sN _ hc with h|h|h|⟨m,h⟩|⟨u,h⟩
  ·simp only[jJ]at h
   obtain⟨rfl,rfl,h3⟩:=h;have H3:=iH h3;rw[h3]at HC hc;clear h3 hc;go_enter Tryz.func67,Tryz.ntmps67;go_wp2_with fail
   refine(HC.out _).mono ?_;rintro e w1 ⟨rfl,hb⟩;obtain⟨c0,c1,c2,hb1⟩:=KEY.out _ hb;have H1:=iH hb1;clear hb hb1;rw[aG8];go_wp2_with fail
   go_ret;exact⟨by rw[H3.out,uU];rfl,H1.out⟩
  ·simp only[jJ]at h
   obtain⟨rfl,rfl,h3⟩:=h;have H3:=iH h3;rw[h3]at HC hc;clear h3 hc;have hcv:=vV;have hca:∀(w:World) (a:Addr),cv1 w a (some (.int .u8 0))=.ok (.string ⟨#[0]⟩) w:=fun w a=>aA8 w a 0 uAv uAv
   go_enter Tryz.func67,Tryz.ntmps67;go_wp2_with fail
   refine(HC.out _).mono ?_;rintro e w1 ⟨rfl,hb⟩;obtain⟨c0,c1,c2,hb1⟩:=KEY.out _ hb;have H1:=iH hb1;clear hb hb1;rw[aDo];go_wp2_with fail
   go_ret;exact⟨by rw[H3.out,sE];rfl,Below.more H1.out _⟩
  ·simp only[jJ]at h
   obtain⟨rfl,rfl,h3⟩:=h;have H3:=iH h3;rw[h3]at HC hc;clear h3 hc;have hcv:=vV;have hca:∀(w:World) (a:Addr),cv1 w a (some (.int .u8 1))=.ok (.string ⟨#[1]⟩) w:=fun w a=>aA8 w a 1 uAv uAv
   go_enter Tryz.func67,Tryz.ntmps67;go_wp2_with fail
   refine(HC.out _).mono ?_;rintro e w1 ⟨rfl,hb⟩;obtain⟨c0,c1,c2,hb1⟩:=KEY.out _ hb;have H1:=iH hb1;clear hb hb1;rw[aG7];go_wp2_with fail
   go_ret;exact⟨by rw[H3.out,uT];rfl,Below.more H1.out _⟩
  ·simp only[jJ]at h
   obtain⟨rfl,rfl,h3⟩:=h;have H3:=iH h3;rw[h3]at HC hc;clear h3 hc;go_enter Tryz.func67,Tryz.ntmps67;go_wp2_with fail
   refine(HC.out _).mono ?_;rintro e w1 ⟨rfl,hb⟩;obtain⟨c0,c1,c2,hb1⟩:=KEY.out _ hb;have H1:=iH hb1;clear hb hb1;rw[aAY];go_wp2_with fail
   refine(HB.out _).mono ?_;rintro e w2 ⟨rfl,hb⟩;have H2:=iH (tW H1.out hb);have hl:(lN n).length=8:=qN n;clear hb;go_wp2_with fail
   go_ret;exact⟨by rw[H3.out,yX,show(3::lN n)=[3]++lN n from rfl,<-qL];rfl,H2.out⟩
  ·simp only[jJ]at h
   obtain⟨rfl,rfl,h3⟩:=h;have HK:Hid (fH (3,0,t.data.toList)=0):=hc;clear h3 hc;go_enter Tryz.func67,Tryz.ntmps67;go_wp2_with fail
   refine(HC.out _).mono ?_;rintro e w1 ⟨rfl,hb⟩;obtain⟨c0,c1,c2,hb1⟩:=KEY.out _ hb;have H1:=iH hb1;clear hb hb1;rw[HK.out];go_wp2_with fail
   refine(HV.out _).mono ?_;rintro e w2 ⟨rfl,rfl⟩;have hl:(nI t.data.toList).length<=2000000:=by have:=HCL.out;omega
   go_wp2_with fail
   go_ret;exact⟨by rw[sD,show(4::(nI t.data.toList++[0,0]))=[4]++nI t.data.toList++[0,0]from rfl,<-qL,<-qL];rfl,H1.out⟩
 ·have h0:(fH (k,n,t.data.toList) !=0)=true:=pZ.2 hc
  have HK:=iH (aEa _ hc);go_enter Tryz.func67,Tryz.ntmps67;exact Af7
def hgt (w:World) (N:Nat):Nat:=match w.cell? ⟨N,1,none⟩with|some (.int _ x)=>x.toNat|_=>0
theorem aLo {w:World} {N h:Nat} {p:Kid} {T:TypeId} {fr:Nat×Nat} (hN:w.heap[N]? =some (.cells (iC h p).toArray T fr)):hgt w N=h+1:=by
 unfold hgt;rw[aK (j:=1) (v:=.int .i64 ((h+1:Nat):Int)) hN rfl];simp
theorem aLq {A B C:List Cel} {r:Nat} (hr:r<B.length):(A++B++C).getD (A.length+r) gT=B.getD r gT:=by
 rw[List.getD_eq_getElem?_getD,List.getD_eq_getElem?_getD,List.getElem?_append_left (by rw[aD];omega),List.getElem?_append_right uAu,mA]
theorem aIK {S:Nat->Prop} {c:Array Value} {l:List Cel} (W:World) (h:dS S W c l) (i:Nat) (hi:i<l.length) (hN:l.length<=200000):
    Calls Tryz.prog 91 #[.agg c,.int .i64 (i:Int)] W fun e W'=>e=.returned (.tuple #[.agg (aX (l.getD i gT)),.bool true])/\Below W.heap.size W W':=by
  obtain⟨w1,hw1⟩:∃w1,(W.alloc (.cells c 88)).alloc (.cells #[.int .i64 0,.int .i64 0,.string ⟨#[]⟩,.pointer none] 35)=w1:=⟨_,rfl⟩
  obtain⟨hb1,hx1,hy1,hs1⟩:=eR hw1;have HY1:=iH hy1;have HX1:=iH hx1;have HB1:=iH hb1;have HS1:=iH hs1;have HS:=iH h.size;have HONE:=iH h.one;have HH:=iH (aBh w1 (h.later hb1) (i:Int));rw[show decide (0<=(i:Int)/\(i:Int)<l.length)=true by simp;omega]at HH;have HR:Hid (∃hh p,c=(iC hh p).toArray/\fD (fun g=>g<W.heap.size) W hh p/\i<p.l.length/\p.l.getD i gT=l.getD i gT/\p.l.length<=200000):=by
    rcases h.old with⟨rfl,rfl⟩|⟨hh,p,e1,rfl,h3,h4⟩
    ·simp at hi
    ·exact⟨hh,p,e1,h3.weak fun g hg=>hg.2,hi,rfl,hN⟩
  obtain⟨v,hv⟩:∃v,v=l.getD i gT:=⟨_,rfl⟩
  rw[<-hv]at HR ⊢;clear hb1 hx1 hy1 hs1 h hi hN hv;go_enter Tryz.func91,Tryz.ntmps91;go_upto_region 1 with fail
  clear hw1;go_wp2_with (first
    |(refine bR rfl 88 _ rfl W.heap.size rfl 88 _ _ _ HX1.out Tryz.underlying88 rfl uEz ?_)
    |(go_at_call 81
      refine HH.out.mono ?_;rintro e w3 ⟨rfl,hb3⟩;have HX3:=iH ((hb3.block W.heap.size uBx).trans HX1.out);have HY3:=iH ((hb3.block (W.heap.size+1) uBx).trans HY1.out);have HS3:Hid (W.heap.size+2<=w3.heap.size):=(by have h1:=HS1.out;have h2:=hb3.size;show _<=_;omega)
      have HB3:=iH (tW HB1.out hb3);clear hb3)
    |(refine bR rfl 86 _ rfl W.heap.size rfl 88 _ _ _ HX3.out Tryz.underlying86 rfl uNu ?_)
    |(refine bV rfl 86 _ _ rfl w3.heap.size c rfl rfl 86 _ (aF _ _) uNu (by rw[HS.out];rfl) HONE.out ?_;intro w4 h4 k4;have HN4:=iH h4;have HK4:Hid (Below w3.heap.size w3 w4):=(Below.newly' _ _).trans (k4.below (aE _));clear h4 k4))
  obtain⟨N,hNN⟩:∃N,N=w3.heap.size:=⟨_,rfl⟩
  have HNW:Hid (W.heap.size+2<=N):=by show _<=_;rw[hNN];exact HS3.out
  have HB4:=iH (tW HB3.out HK4.out);have HY4:=iH ((HK4.out.block (W.heap.size+1) uFw).trans HY3.out);rw[<-hNN]at HN4 ⊢;clear hNN HK4;obtain⟨hh,p,rfl,hp,hip,hpv,hpl⟩:=HR.out;simp only[Act.put];go_loopw [1] (fun iv wr=>∃(hh:Nat) (p:Kid) (r:Nat),iv=.int .i64 (r:Int)/\Hid (wr.heap[N]? =some (.cells (iC hh p).toArray 86 (0,0)))/\Hid (fD (fun g=>g<W.heap.size) wr hh p/\r<p.l.length/\p.l.getD r gT=v/\p.l.length<=200000)/\Hid (wr.heap[W.heap.size+1]? =some (.cells #[.int .i64 0,.int .i64 0,.string ⟨#[]⟩,.pointer none] 35 (0,0)))/\Hid (Below W.heap.size W wr)) (fun _ wr=>hgt wr N)
  case atStart=>exact⟨hh,p,i,rfl,HN4,⟨hp.low HB4.out,hip,hpv,hpl⟩,HY4,HB4⟩
  case round=>
    clear HR hp hip hpv hpl HN4 HB4 HX3 HB3 HB1 HX1 HS1 HH HS HONE HY4 HY3 HY1 HS3;obtain⟨hh,q,r,rfl,HN,HP,HY,HB⟩:=hrel;obtain⟨hq,hrq,hqv,hql⟩:=HP.out;cases hh with
    |zero=>
     obtain⟨hqa,hqk,hq1,hq16,hqh⟩:=hq;obtain⟨g,cp,cur,fr,hqb,hcap,hS,hg,hcs⟩:=hqh.pos hq1;have ca2:wr.cell? ⟨N,2,none⟩=some (.slice none 0 0):=by rw[<-hqa];exact aK HN.out rfl
     have ca3:wr.cell? ⟨N,3,none⟩=some (.slice (some ⟨g,0,none⟩) q.k cp):=by rw[<-hqb];exact aK HN.out rfl
     have HRV:Hid (wr.rangeAt g (r*4) (enV v)):=fun k u hu=>by
       have hk:k<4:=(List.getElem?_eq_some_iff.1 hu).1;have hqr:q.l[r]? =some v:=by rw[List.getElem?_eq_getElem hrq,<-hqv,List.getD_eq_getElem?_getD,List.getElem?_eq_getElem hrq];rfl
       refine aK hg (hcs _ u ?_);rw[aBZ vT q.l r k v hqr hk];exact hu
     obtain⟨n,hn⟩:∃n,n=q.k:=⟨_,rfl⟩
     rw[<-hn]at ca3;have hrn:r<n:=by omega
     have hri:(r:Int)<(n:Int):=by omega
     have hnil:=aFu;clear hqa hqk hq1 hq16 hqh hqb hcap hS hg hcs hrq hqv hql hn HP HN;go_wp2_with (first
       |(refine dA rfl 35 _ rfl g (r*4) rfl (enV v) _ HRV.out Tryz.underlying35 rfl aR ?_)
       |(refine bV rfl 35 _ _ rfl (W.heap.size+1) (aX v) rfl rfl 35 _ HY.out aR rfl (eU v) ?_;intro w6 h6 k6))
     exact bF (bU rfl _ _ (W.heap.size+1) 35 _ (0,0) _ rfl h6 Tryz.underlying35 rfl aR) rfl ⟨rfl,HB.out.trans (k6.below uAu)⟩
    |succ h'=>
     obtain⟨hqb,hk1,hk16,ks,hhd,hkl,hl,hks⟩:=hq;obtain⟨n,hn⟩:∃n,n=q.k:=⟨_,rfl⟩
     rw[<-hn]at hk1 hk16 hhd hkl;have HWAY:=iH (aKi wr h' n r q ks hhd hkl hk1 hk16 uSv uSv);obtain⟨g,cp,cur,fr,hqa,hcap,hS,hg,hcs⟩:=hhd.pos hk1;have ca2:wr.cell? ⟨N,2,none⟩=some (.slice (some ⟨g,0,none⟩) n cp):=by rw[<-hqa];exact aK HN.out rfl
     have HRG:Hid (∀k (hk:k<ks.length),wr.rangeAt g (k*4) (iC h' ks[k])):=fun k hk=>sK (h:=h') hg hcs hk
     have HKS:=iH hks;have HL:=iH (And.intro hl (And.intro hkl (And.intro hrq (And.intro hqv hql))));have hnil:=fun w=>aFt ⟨g,0,none⟩ n cp w
     have hn16:(n:Int)<=16:=by omega
     have HLT:Hid (N<wr.heap.size):=(gZ HN.out)
     clear hqb hk1 hk16 hhd hkl hl hks hqa hcap hS hg hcs hrq hqv hql hn HP;go_upto_region 8 with(first
       |(refine bR rfl 86 _ rfl N rfl 86 _ _ _ HN.out Tryz.underlying86 rfl dY ?_)
       |(go_at_call 111;refine HWAY.out.mono ?_;rintro e w5 ⟨k,s,rfl,hwy,hb5⟩;have HWYY:=iH hwy;have HB5:=iH hb5;clear hwy hb5))
     obtain⟨hkk,hir,hr1,hr2⟩:=HWYY.out;obtain⟨hl,hkl,hrq,hqv,hql⟩:=HL.out;have hrl:=hr2 (by rw[<-hl];exact hrq);have hb5:=HB5.out;have ca5:w5.cell? ⟨N,2,none⟩=some (.slice (some ⟨g,0,none⟩) n cp):=(hb5.cell (p:=⟨N,2,none⟩) HLT.out).trans ca2;have HRG5:Hid (w5.rangeAt g (k*4) (iC h' ks[k])):=mU (HRG.out k hkk) hb5;have HN5:=iH ((hb5.block N HLT.out).trans HN.out);have HY5:=iH ((hb5.block (W.heap.size+1) (by have:=HLT.out;have:=HNW.out;omega)).trans HY.out);have HBB5:=iH (tW HB.out hb5);have HQ5:Hid (fD (fun g=>g<W.heap.size) w5 h' ks[k]/\s<ks[k].l.length/\ks[k].l.getD s gT=v/\ks[k].l.length<=200000):=by
       refine⟨((HKS.out _ (aO hkk)).2.old.later hb5).weak fun g hg=>hg.1,hrl,?_,?_⟩
       ·rw[<-hqv,hl,sO hkk,hir,aLq hrl]
       ·have h1:=bH List.length (sO hkk)
        rw[aD,aD,<-hl]at h1;omega
     obtain⟨y,hy⟩:∃y,y=ks[k]:=⟨_,rfl⟩
     rw[<-hy]at HRG5 HQ5;have hkn:(k:Int)<(n:Int):=by omega
     have hkn':k<n:=by omega
     clear hkk hir hr1 hr2 hl hkl hrq hqv hql hrl hb5 hy ca2 HWYY HL HKS HRG HB5 HWAY;go_wp2_with (first
       |(refine dA rfl 86 _ rfl g (k*4) rfl (iC h' y) _ HRG5.out Tryz.underlying86 rfl dY ?_)
       |(refine bV rfl 86 _ _ rfl N (iC h' y).toArray rfl rfl 86 _ HN5.out dY rfl (aHO h' y) ?_;intro w6 h6 k6;have HN6:=iH h6;have HK6:=iH k6;clear h6 k6))
     (try simp only[pq]);go_roundw
     case rel=>
       refine⟨h',y,s,rfl,HN6,⟨?_,HQ5.out.2⟩,HK6.out.other HY5.out (by have:=HNW.out;omega),?_⟩
       ·exact HQ5.out.1.kept HK6.out.by_ (fun X e=>by cases e;intro h;have:=HNW.out;omega)
       ·exact HBB5.out.trans (HK6.out.below (by have:=HNW.out;omega))
     case measure=>
       rw[aLo HN6.out,aLo HN.out];omega
theorem aGM {S:Nat->Prop} {c:Array Value} {l:List Cel} (W:World) (h:dS S W c l) (i:Int) (hi:¬(0<=i/\i<l.length)):
    Calls Tryz.prog 91 #[.agg c,.int .i64 i] W fun e W'=>e=.returned (.tuple #[.agg (aX gT),.bool false])/\Below W.heap.size W W':=by
  obtain⟨w1,hw1⟩:∃w1,(W.alloc (.cells c 88)).alloc (.cells #[.int .i64 0,.int .i64 0,.string ⟨#[]⟩,.pointer none] 35)=w1:=⟨_,rfl⟩
  obtain⟨hb1,hx1,hy1,hs1⟩:=eR hw1;have HY1:=iH hy1;have HX1:=iH hx1;have HB1:=iH hb1;have HS1:=iH hs1;have HS:=iH h.size;have HH:=iH (aBh w1 (h.later hb1) i);rw[show decide (0<=i/\i<l.length)=false by simpa using hi]at HH;clear hb1 hx1 hy1 hs1 h hi;go_enter Tryz.func91,Tryz.ntmps91;go_upto_region 1 with fail
  clear hw1;go_wp2_with (first
    |(refine bR rfl 88 _ rfl W.heap.size rfl 88 _ _ _ HX1.out Tryz.underlying88 rfl uEz ?_)
    |(go_at_call 81
      refine HH.out.mono ?_;rintro e w3 ⟨rfl,hb3⟩;have HB3:=iH (tW HB1.out hb3);have HY3:=iH ((hb3.block (W.heap.size+1) uBx).trans HY1.out);have HL3:Hid (W.heap.size+1<w3.heap.size):=(by have h1:=HS1.out;have h2:=hb3.size;show _<_;omega)
      clear hb3)
    |(refine bR rfl 35 _ rfl w3.heap.size rfl 35 _ _ _ (aF _ _) Tryz.underlying35 rfl aR ?_)
    |(refine bV rfl 35 _ _ rfl (W.heap.size+1) #[.int .i64 0,.int .i64 0,.string ⟨#[]⟩,.pointer none] rfl rfl 35 _ (((Below.newly' w3 _).block _ HL3.out).trans HY3.out) aR rfl uAy ?_;intro w6 h6 k6))
  exact bF (bU rfl _ _ (W.heap.size+1) 35 _ (0,0) _ rfl h6 Tryz.underlying35 rfl aR) rfl ⟨rfl,(HB3.out.trans ((Below.newly' w3 _).mono HB3.out.size)).trans (k6.below uAu)⟩
theorem aNH {S:Nat->Prop} {c:Array Value} {l:List Cel} (W:World) (h:dS S W c l) (i:Int) (hN:l.length<=200000):
  Calls Tryz.prog 91 #[.agg c,.int .i64 i] W fun e W'=>e=.returned (.tuple #[.agg (aX (if 0<=i/\i<l.length then l.getD i.toNat gT else gT)),.bool (decide (0<=i/\i<l.length))])/\Below W.heap.size W W':=by
 by_cases hi:0<=i/\i<l.length
 ·obtain⟨j,rfl⟩:∃j:Nat,i=(j:Int):=⟨i.toNat,by omega⟩
  rw[if_pos hi,lY hi,lC];exact aIK W h j uAu hN
 ·rw[if_neg hi,fA hi]
  exact aGM W h i hi
theorem aF7 (k n:Int) (t:ByteArray) (w:World):
  Calls Tryz.prog 116 #[scV k n t] w fun e w'=>e=.returned (.int .i64 (fH (scT k n t)))/\Below w.heap.size w w':=by
 have HN:=iH (Below.newly' w (.cells #[.int .i64 k,.int .i64 n,.string t] 32));have te:=qY t;by_cases hk:k=0\/k=1\/k=2\/k=3
 case neg=>
  have q0:(k==0)=false:=bJ.2 uAu;have q1:(k==1)=false:=bJ.2 uAu;have q2:(k==2)=false:=bJ.2 uAu;have q3:(k==3)=false:=bJ.2 uAu;have HC:Hid (fH (scT k n t)=3):=by show _=_;unfold fH;rw[if_pos (by simp only;omega)]
  clear hk te;go_enter Tryz.func116,Tryz.ntmps116;go_wp2
  go_ret;exact⟨kO (by rw[HC.out]),HN.out⟩
 by_cases ht0:t.data.toList=[]
 rw[lY ht0]at te
 rotate_left
 rw[fA ht0]at te
 all_goals
  have HT:=iH ht0;clear ht0;rcases hk with rfl|rfl|rfl|rfl
  ·exact Ab0
  ·by_cases n0:n=0
   ·subst n0
    exact Ab9
   ·have hn':(n !=0)=true:=pZ.2 n0
    by_cases n1:n=1
    ·subst n1
     exact Ab9
    ·have hm':(n !=1)=true:=pZ.2 n1
     go_enter Tryz.func116,Tryz.ntmps116;go_wp2
     go_ret;exact⟨kO (by simp only[fH];simp[HT.out,n0,n1]),HN.out⟩
  ·exact Ab0
  ·exact Ab0
end Go.Proofs.YtengibnpebfblaaGreatDoor
