import Derived.Test.YthmfgidbcghnfaaGreatDoorQ0
import Derived.Test.YthmfgidbcghnfaaGreatDoorQ20
import Derived.Test.YthmfgidbcghnfaaGreatDoorQ23
set_option maxRecDepth 1000000
set_option maxHeartbeats 8000000
set_option linter.unusedSimpArgs false
namespace Go.Proofs.YthmfgidbcghnfaaGreatDoor
open Go.RowKit Go.Shelf
attribute [local go_sem] fS
theorem aKu:(Tryz.prog.info? 132).map (·.size)=some 1:=by kernel_rfl
theorem aLJ {ops:Array Oper} {rest:List Oper} {o:Oper} {a:Act} {w:World} {Q:Exit->Act->World->Prop} {n l:Nat} (fj:o.guard=none) (ty:TypeId) (x y:Operand) (ho:o.op=.store ty x y)
  (X:Nat) (v:Value) (hx:a.eval x=.pointer (some ⟨X,0,none⟩)) (hy:a.eval y=v) (h1:v.oneCell'=true) (T:TypeId) (u:Value) (hB:Boxed w X T u)
  (hi:(Tryz.prog.info? ty).map (·.size)=some 1)
  (h:∀w',Boxed w' X T v->iL X w w'->wpListIn (Fence.wide.inRound l) n Tryz.prog ops Q rest (a.put o.dst undef) w'):wpListIn (Fence.wide.inRound l) n Tryz.prog ops Q (o::rest) a w:=
 uA fj (fun c' hc=>by rw[ho]at hc;cases hc) fun _ hK=>qO ty x y ho X v hx hy h1 T u hB hi fun w' h1 h2=>hK _ _ (h w' h1 h2)
theorem aCo {β:Type} {n₀ B:Nat} {Mc:World} (hn:Mc.heap.size<=B) (nb:n₀<=Mc.heap.size):OwnFrom B (fun(_:β) W=>Ap n₀ Mc W):=fun s W W' row hs hg hr=>
 ⟨hs.below.grown hg (aI nb hs.below.size) (fun k e=>by have:=(hr k e).1;omega),fun g o Yb ho=>
  (hg.block g (by have:=(gZ Yb);have:=hs.below.size;omega) (fun e=>by have:=(hr g e.symm).1;have:=(gZ Yb);omega)).trans (hs.kept g o Yb ho)⟩
theorem aCY {hs:ByteArray->Nat} {S:Nat->Prop} {A C:World} {b:Nat} {e:Ent} {row:Option Nat} (h:jT hs S A b e) (hg:A.grownBy C row) (hr:∀r,row=some r->∃o:Obj,A.heap[r]? =some o/\o.isCells=false):jT hs S C b e:=by
 obtain⟨h1,fr,h2⟩:=h;exact⟨h1,fr,pS h2 hg hr⟩
def aK3 (hs:ByteArray->Nat) (S:Nat->Prop) (n₀:Nat) (w:World) (ps:List Nat) (L:List Ent) (r:Ending) (w':World):Prop:=
 ∃(v':Value) (qs:List (Nat×Ent)),r=.returned v'/\(qs.map (·.2)).Perm L/\(∀q∈qs,jT hs S w' q.1 q.2)/\Eps n₀ v' (ps++qs.map (·.1)) w'/\Ap n₀ w w'
def AppI (hs:ByteArray->Nat) (S:Nat->Prop) (n₀:Nat) (w:World) (ps:List Nat) (c:Array Value) (L:List Ent) (V:World):Prop:=
 ((∃(a5:Option Addr) (m5 c5:Nat) (rq:List (Nat×Ent)),Boxed V (w.heap.size+1) 132 (.slice a5 m5 c5)/\Eps n₀ (.slice a5 m5 c5) (ps++rq.map (·.1)) V/\(rq.map (·.2)).Perm L/\∀q∈rq,jT hs S V q.1 q.2)/\V.heap[w.heap.size]? =some (.cells c 134 (0,0)))/\Ap n₀ w V
def aQp (hs:ByteArray->Nat) (f:Nat):Prop:=∀(S:Nat->Prop) (n₀:Nat) (w:World) (L:List Ent) (c:Array Value) (v:Value) (ps:List Nat),(∀g,S g->g<n₀)->4<n₀->dI hs S f w L c->L.length<=50000->Eps n₀ v ps w->ps.length+2000000*f+2000000<=100000000->iF w->
  Calls Tryz.prog 165 #[.agg c,v] w (aK3 hs S n₀ w ps L)
theorem aB2 (hs:ByteArray->Nat) (f:Nat) (S:Nat->Prop) (n₀:Nat) (w:World) (v:Value) (ps:List Nat) (b:Nat) (va:Option Addr) (vn vc:Nat) (la:Option Addr) (ln lc:Nat) (R:Rg Pl) (M:Nat->List Ent) (qs:List (Nat×Ent)) (hS:∀g,S g->g<n₀) (ht:4<n₀)
  (dj:AtR S w R #[.int .u32 (b:Int),.slice va vn vc]) (hl:bY S w 1 (.slice la ln lc) (en enE (qs.map (·.1))) (qs.map (·.1)).length) (hq:∀q∈qs,jT hs S w q.1 q.2) (jz:qs.length<=50000) (hpl:∀i,i<32->pZ hs S w (dI hs S f w) (M i) (R i)) (CP:∀i,(M i).length<=50000)
  (sc:iZ R=[]\/(aQp hs f/\ps.length+2000000*(f+1)+2000000<=100000000)) (H7:Eps n₀ v ps w) (Gf:ps.length<=100000000) (hT:iF w):
  Calls Tryz.prog 165 #[.agg #[.int .u32 (b:Int),.slice va vn vc,.slice la ln lc],v] w (aK3 hs S n₀ w ps ((iZ R).flatMap (fun x=>M x.1)++qs.map (·.2))):=by
 obtain⟨Rl,Rm,rfl⟩:=H7.len;have b8:=H7.2;have Bj:eV R 32=b:=by
  obtain⟨v',e,_⟩:=dj;simp only[gU,dA,Value.int.injEq,yA]at e;omega
 have jm:Hid (aDl n₀ w (.slice va vn vc) (oH R)):=by
  obtain⟨v',e,h2⟩:=dj;simp only[gU,dA]at e;rw[<-e.2.1]at h2;exact aOg h2 hS
 have Gh:=iH hT;have Yc:=iH hpl;have JD:=iH hl;have HQ:=iH hq;have Wk:=iH jz;have Yd:=iH CP;have Ak:=iH sc;have Ye:=iH H7;have JE:=iH Gf;have HS:=iH hS;have mh:=iH (fun b v w=>dD.1 (aEl 5 b v w));obtain⟨w1,ag⟩:∃w1,(w.alloc (.cells #[.int .u32 (b:Int),.slice va vn vc,.slice la ln lc] 134)).alloc (.cells #[.slice Rl ps.length Rm] 132)=w1:=⟨_,rfl⟩
 obtain⟨af,ai,aw,al⟩:=lA ag;have HX1:=iH ai;have bl:=iH aw;have HB1:=iH af;have HS1:=iH al;clear dj hl hq jz hpl CP sc H7 Gf hT hS ai aw af al;refine(dD (n:=5)).1 ?_;refine fZ Tryz.func165 rfl trivial ?_ rfl;refine iW.2 ?_;simp only[Tryz.ntmps165,bI,aD,aK,Nat.reduceAdd,Nat.reduceSub,bT,bS,cH,bU,aT,aP];go_upto_region 1 with fail
 go_wp2_with (first
  |(refine cO rfl 131 _ rfl w.heap.size 0 rfl [.int .u32 (b:Int),.slice va vn vc] _ (kF HX1.out) Tryz.underlying131 rfl iY ?_)
  |(go_at_call 192;refine(mh.out _ _ _).mono ?_;rintro e w' ⟨rfl,rfl⟩))
 obtain⟨RB,Uu⟩:∃RB,RB=w1.heap.size:=⟨_,rfl⟩
 have JF:RB=w.heap.size+2:=by rw[Uu,HS1.out]
 obtain⟨W0,Dq⟩:∃W0,w1.alloc (.cells #[.int .u32 (b:Int),.slice va vn vc] 131)=W0:=⟨_,rfl⟩
 obtain⟨mf,Bv,s8⟩:=aJl Dq;rw[Dq];rw[<-Uu]at Bv s8;have hA0:Ap n₀ w W0:=(Ap.later HB1.out b8).trans (Ap.later mf hO);have Bq:=(mf.block _ hO).trans HX1.out;have Uv:Boxed W0 (w.heap.size+1) 132 (.slice Rl ps.length Rm):=(mf.block _ hO).trans bl.out;have Uw:Eps n₀ (.slice Rl ps.length Rm) (ps++([]:List (Nat×Ent)).map (·.1)) W0:=by rw[gY,fE];exact Ye.out.later (tW HB1.out mf)
 clear Dq mf ag;refine(iW (n:=5)).1 ?_;refine wpIn_rangeFunc_ownH (F:=Fence.wide) rfl hO (gf:=231) (lb:=#[.pointer (some ⟨w1.heap.size,0,none⟩)]) rfl trivial (iX Tryz.func231 uAu rfl)
  (aDT 4 hO w1.heap.size n₀ R _ W0 hO hO ht (by rw[Bj,<-Uu];exact aG Bv rfl) (by rw[<-Uu];exact aG Bv rfl) (jm.out.below hA0.below) (hA0.tab ht Gh.out)) belowK_t (belowK_b hO) (bB _ _) (fun _=>rfl)
  (fun pre V=>AppI hs S n₀ w ps #[.int .u32 (b:Int),.slice va vn vc,.slice la ln lc] (pre.flatMap fun x=>M x.1.1) V)
  (fun _ _ _=>False)
  (fun s A B row Gp hg hr=>by
   obtain⟨⟨⟨a5,m5,c5,rq,h1,h2,h3,h4⟩,h5⟩,h6⟩:=Gp;have o9:=fun r e=>(hr r e).2
   exact⟨⟨⟨a5,m5,c5,rq,qL h1 hg o9,aI4 h2 hg o9,h3,fun q hq=>aCY (h4 q hq) hg o9⟩,pS h5 hg o9⟩,aCo (β:=Unit) hO b8 () A B row h6 hg hr⟩)
  (fun _ _ _ _ _ Gp _ _=>Gp)
  ⟨⟨⟨Rl,ps.length,Rm,[],Uv,Uw,by simp,by simp⟩,Bq⟩,hA0⟩
  (fun x a' V=>∃Bx,w.heap.size+2<=Bx/\V.heap[Bx]? =some (.cells (plc x.1.2) 258 (0,0))/\a'={tmps:=#[.agg #[.int .u32 (b:Int),.slice va vn vc,.slice la ln lc],.slice Rl ps.length Rm,.pointer (some ⟨w.heap.size,0,none⟩),.pointer (some ⟨w.heap.size+1,0,none⟩),.slice none 0 0,undef,.pointer (some ⟨Bx,0,none⟩),.pointer (some ⟨w.heap.size,0,none⟩),.agg #[.int .u32 (b:Int),.slice va vn vc],.func (.func 231) #[] #[.pointer (some ⟨w1.heap.size,0,none⟩)],.int .i64 (x.1.1:Int),.agg (plc x.1.2),undef,undef,undef,undef,undef,undef,undef,undef,undef,undef,undef,undef,undef,undef,undef,undef,undef,undef],defers:=[]})
  (fun x a'=>Own.from (fun s A B row Gp hg hr=>by obtain⟨Bx,h1,h2,h3⟩:=Gp;exact⟨Bx,h1,pS h2 hg hr,h3⟩) _)
  ?assign ?body ?done ?stop
 case assign=>
  rintro l pre x V K ⟨⟨⟨a5,m5,c5,rq,h1,h2,h3,h4⟩,h5⟩,hA⟩ hK;gi_wp2_with (refine aSB rfl 258 _ _ rfl V.heap.size (plc x.1.2) rfl rfl 258 (plc (none,none)) (aC _ _) dN rfl (gW x.1.2) ?_;intro w5 T3 k5;have ay:Below V.heap.size V w5:=(Below.newly' _ _).trans (k5.below (aA _)))
  exact hK _ _ (((KeepsOthers.alloc V _).trans (kQ k5 (aC _ _))).from _) (ay.mono h2.2) ⟨⟨⟨a5,m5,c5,rq,(ay.block _ h1.lt).trans h1,h2.later ay,h3,fun q hq=>(h4 q hq).later ay⟩,kW ay h5⟩,hA.trans (Ap.later ay h2.2)⟩ ⟨V.heap.size,by have:=h1.lt;omega,T3,rfl⟩
 case body=>
  rintro l pre x a' V hl ⟨r,hr⟩ ⟨⟨⟨a5,m5,c5,rq,hL,hE,hP,hQ⟩,hX⟩,hA⟩ ⟨Bx,GV,bX,rfl⟩ hlt;obtain⟨⟨i,p⟩,hx⟩:=x;obtain⟨hi,Rj⟩:=aID hx;simp only at hi Rj bX;have Ia:aQp hs f/\ps.length+2000000*(f+1)+2000000<=100000000:=by
   rcases Ak.out with h|h
   ·rw[h]at hx;cases hx
   ·exact h
  have hpl:=Yc.out i hi;rw[Rj]at hpl;have ef:Kp S w V:=hA.kp HS.out;have yl:rq.length<=1600000:=by
   have h1:=hP.length_eq;rw[aM]at h1;have h2:∀l:List {x:Nat×Pl//x∈iZ R},(l.flatMap fun x=>M x.1.1).length<=l.length*50000:=by
    exact Ag9
   have h3:=h2 pre;have h4:(iZ R).length<=32:=by rw[rD];exact zZ R 32
   have h5:pre.length*50000<=32*50000:=cS _ hO;omega
  have Bz:(ps++rq.map (·.1)).length+2000000*f+2000000<=100000000:=by
   have:=Ia.2;rw[aB,aM];omega
  have Md:=Yd.out i;obtain⟨Mi,Me⟩:∃Mi,Mi=M i:=⟨_,rfl⟩
  have Rn:Hid (∀Mf:List (Nat×Ent),(Mf.map (·.2)).Perm Mi->((rq++Mf).map (·.2)).Perm ((pre++[(⟨(i,p),hx⟩:{x:Nat×Pl//x∈iZ R})]).flatMap fun x:{x:Nat×Pl//x∈iZ R}=>M x.1.1)):=fun Mf h=>by
   rw[bZ,gN];refine hP.append ?_;rw[Me]at h;simpa using h
  rw[<-Me]at hpl Md;have HA:=iH hA;have Jo:=iH hL;have CQ:=iH hX;have Ro:=iH bX;have xh:=iH hQ;have Gn:=iH hE;have cL:=hL.cell;have Hp:=hL.lt;clear Me
  match Mi,hpl,Md,Rn with
  |[],hpl,_,_=>cases hpl
  |[e],hpl,Md,Rn=>
   obtain⟨b1,hp,he⟩:=hpl;obtain rfl:=aH hp;have Yf:=iH (hE.later (Below.newly' V (.cells #[.pointer (some ⟨b1,0,none⟩)] 211)));have Ag:=iH (he.kp ef);have tu:V.cell? ⟨Bx,0,none⟩=some (.pointer (some ⟨b1,0,none⟩)):=aG bX rfl;have Ah:V.cell? ⟨Bx,1,none⟩=some (.pointer none):=aG bX rfl;have JG:(V.alloc (.cells #[.pointer (some ⟨b1,0,none⟩)] 211)).cell? ⟨Bx,0,none⟩=some (.pointer (some ⟨b1,0,none⟩)):=((Below.newly' V _).cell (p:=⟨Bx,0,none⟩) (gZ bX)).trans tu;have bp:=iH Bz;clear hL hE hP hQ hX hA bX hpl Rj hr Ia ef yl Bz Md hp he Bq Uv Bv hA0 Uw s8;gi_wp2_with (first
    |(refine aTH rfl _ _ rfl (v:=.slice a5 m5 c5) rfl Yf.out (rs:=[b1]) rfl (aJG (aC V _)) (by have:=bp.out;have:[b1].length=1:=rfl;omega) ?_;intro v6 w6 E9 Du;obtain⟨a6,c6,rfl⟩:=E9.len;have zn:=iH E9;have Mg:=iH ((Ap.later (Below.newly' V (.cells #[.pointer (some ⟨b1,0,none⟩)] 211)) Gn.out.2).trans Du);have Ib:Hid (Boxed w6 (w.heap.size+1) 132 (.slice a5 m5 c5)):=Mg.out.row Jo.out uAv;obtain⟨m6,Fa⟩:∃m6,m6=(ps++rq.map (·.1)++[b1]).length:=⟨_,rfl⟩;rw[<-Fa]at zn ⊢;clear E9 Du Fa)
    |(refine aLJ rfl 132 _ _ rfl (w.heap.size+1) (.slice a6 m6 c6) rfl rfl rfl 132 _ Ib.out aKu ?_;intro w7 h7 k7))
   have Ic:Below n₀ V w7:=Mg.out.below.trans (k7.below hO);refine⟨(Mg.out.keeps.trans (kQ k7 Ib.out)).from _,Ic,⟨⟨⟨a6,m6,c6,rq++[(b1,e)],h7,?_,Rn.out [(b1,e)] uAy,fun q hq=> ?_⟩,k7.other (Mg.out.row CQ.out uAv) hO⟩,(HA.out.trans Mg.out).wrote k7 hO b8⟩⟩
   ·exact Aj8
   ·rcases dL.1 hq with hq|hq
    ·exact(xh.out q hq).kp (Kp.low Ic HS.out)
    ·rw[bV]at hq
     subst hq;exact Ag.out.kp (Kp.low Ic HS.out)
  |m1::m2::M2,hpl,Md,Rn=>
   obtain⟨g,cg,fr,hp,Wj,ku,oh⟩:=hpl;obtain rfl:=aH hp;have Yg:V.heap[g]? =some (.cells cg 134 fr):=ef g _ Wj ⟨_,_,_,rfl,.inr (.inl rfl)⟩ ku;have Al:=iH Yg;have nm:=iH oh.size;have CR:=iH (aY V);have Mh:=iH (Ap.later (aY V) Gn.out.2);have HC:=iH (Ia.1 S n₀ V.drew (m1::m2::M2) cg (.slice a5 m5 c5) (ps++rq.map (·.1)) HS.out ht (oh.kp (ef.trans (Kp.later (aY V)))) Md (hE.later (aY V)) Bz ((hA.trans Mh.out).tab ht Gh.out));have Ah:V.cell? ⟨Bx,1,none⟩=some (.pointer (some ⟨g,0,none⟩)):=aG bX rfl;have ox:Hid (V.drew.cell? ⟨Bx,1,none⟩=some (.pointer (some ⟨g,0,none⟩))/\V.drew.heap[g]? =some (.cells cg 134 fr)/\V.drew.cell? ⟨w.heap.size+1,0,none⟩=some (.slice a5 m5 c5)):=⟨Ah,Yg,cL⟩
   clear hL hE hP hQ hX hA bX hpl Rj hr Ia ef yl Bz Md hp oh ku Bq Uv Bv hA0 Uw s8 Yg;gi_wp2
   refine rN (S:=(fun V'=>V'.cell? ⟨Bx,1,none⟩=some (.pointer (some ⟨g,0,none⟩))/\V'.heap[g]? =some (.cells cg 134 fr)/\V'.cell? ⟨w.heap.size+1,0,none⟩=some (.slice a5 m5 c5))) [6] uAu uAu (fun⟨_,_,h⟩=>h) uLu (fun ab=> ?_);refine tkA 0 15 (h:=?_);refine tkA 1 16 (h:=?_);(try simp only[pq]);refine tkA 2 17 (h:=?_);refine tyA 3 18 (hy:=aJ uAz 134 _ rfl g rfl cg 134 _ _ (fun w hw=>hw.2.1) Tryz.underlying134 rfl (by rw[nm.out];exact iT)) (h:=?_);(try simp only[pq]);refine tkA 4 19 (h:=?_);(try simp only[pq]);refine tkO 5 (some 20) (h:=fun K hK=> ?_);go_simp;go_at_call 165;refine HC.out.mono ?_;rintro r w6 ⟨v6,Mf,rfl,Bm,CS,E9,Du⟩;obtain⟨a6,c6,rfl⟩:=E9.len;have lg:=iH Bm;have JH:=iH CS;have zn:=iH E9;have Mg:=iH Du;have Ib:Hid (Boxed w6 (w.heap.size+1) 132 (.slice a5 m5 c5)):=Du.row (a:=V.drew) Jo.out uAv;have HX6:Hid (w6.heap[Bx]? =some (.cells (plc (none,some g)) 258 (0,0))):=Du.row (a:=V.drew) Ro.out uAv;have jl:Hid (w6.heap[g]? =some (.cells cg 134 fr)):=Du.row (a:=V.drew) Al.out uAv;obtain⟨m6,Fa⟩:∃m6,m6=(ps++rq.map (·.1)++Mf.map (·.1)).length:=⟨_,rfl⟩
   rw[<-Fa]at zn ⊢;clear Bm CS E9 Du Fa;dsimp only;refine hK.out _ _ uLu (fun ab=> ?_);clear hK K;(try simp only[pq]);refine tkU 6 none (h:=fun K hK=> ?_);rw[if_pos uAz];refine qO 132 _ _ rfl (w.heap.size+1) (.slice a6 m6 c6) rfl rfl rfl 132 _ Ib.out aKu ?_;intro w7 h7 k7;refine hK.out _ _ ?_;clear hK K;(try simp only[pq]);refine bJ uAu ?_ _;have Ux:Ap n₀ V w6:=Mh.out.trans Mg.out;have Ic:Below n₀ V w7:=Ux.below.trans (k7.below hO);refine⟨(Ux.keeps.trans (kQ k7 Ib.out)).from _,Ic,⟨⟨⟨a6,m6,c6,rq++Mf,h7,?_,Rn.out Mf lg.out,fun q hq=> ?_⟩,k7.other (Ux.row CQ.out uAv) hO⟩,(HA.out.trans Ux).wrote k7 hO b8⟩⟩
   ·exact Aj8
   ·rcases dL.1 hq with hq|hq
    ·exact(xh.out q hq).kp (Kp.low Ic HS.out)
    ·exact(JH.out q hq).kp (Kp.low (k7.below hO) HS.out)
 case done=>
  rintro D ys V hD nw ⟨⟨⟨a5,m5,c5,rq,hL,hE,hP,hQ⟩,hX⟩,hA⟩ hK;have cL:=hL.cell;have JI:V.cell? ⟨w.heap.size,2,none⟩=some (.slice la ln lc):=aG hX rfl;have HE:=iH hE;have HA:=iH hA;have HK:=iH hK;have xh:=iH hQ;have rp:=iH hP;have JJ:=iH (JD.out.low hA.below HS.out);have nr:Hid ((ps++rq.map (·.1)).length+(qs.map (·.1)).length<=17592186044416):=by
   show _<=_;have h1:=hP.length_eq;rw[aM]at h1;have h2:∀l:List {x:Nat×Pl//x∈iZ R},(l.flatMap fun x=>M x.1.1).length<=l.length*50000:=by
    exact Ag9
   have h3:=h2 ys;have h4:(iZ R).length<=32:=by rw[rD];exact zZ R 32
   have h6:ys.length<=32:=by rw[<-nw,aM]at h4;exact h4
   have h5:ys.length*50000<=32*50000:=cS _ h6;have:=JE.out;have:=Wk.out;rw[aB,aM,aM];omega
  have vq:Hid ((iZ R).flatMap (fun x=>M x.1)=ys.flatMap fun x=>M x.1.1):=by
   have h:=aU (List.flatMap (fun x:Nat×Pl=>M x.1)) nw;rw[List.flatMap_map]at h;exact h.symm
  clear hL hE hP hQ hX hA hK Bq Uv Bv hA0 Uw nw;go_wp2_with (first
   |(refine aPu rfl _ _ rfl (v:=.slice a5 m5 c5) rfl HE.out (rs:=qs.map (·.1)) rfl JJ.out nr.out ?_;intro v6 w6 E9 Du;obtain⟨a6,c6,rfl⟩:=E9.len;obtain⟨m6,Fa⟩:∃m6,m6=(ps++rq.map (·.1)++qs.map (·.1)).length:=⟨_,rfl⟩;rw[<-Fa]at E9 ⊢;clear Fa))
  have Yh:w6.heap[D]? =some (.deferred (some [])):=Du.kept D _ HK.out (fun _ _ e=>by cases e);have vt:=fC w6 D (.deferred none);have CT:=HA.out.trans Du;have Yi:∀r,some D=some r->∃o:Obj,w6.heap[r]? =some o/\o.isCells=false:=fun r e=>by cases e;exact⟨_,Yh,rfl⟩
  refine⟨by simp[Act.put],.inl ⟨_,_,rfl,lG Yh,.slice a6 m6 c6,by simp[results,Tryz.f165,go_sem],_,rq++qs,rfl,?_,fun q hq=> ?_,?_,?_⟩⟩
  ·rw[bZ,vq.out]
   exact rp.out.append_right _
  ·rcases dL.1 hq with hq|hq
   ·exact aCY ((xh.out q hq).kp (Kp.low Du.below HS.out)) vt Yi
   ·exact aCY ((HQ.out q hq).kp (CT.kp HS.out)) vt Yi
  ·rw[bZ,<-bG]
   exact aI4 E9 vt Yi
  ·exact aCo (β:=Unit) (B:=w.heap.size) (aA _) b8 () _ _ (some D) CT vt (fun r e=>by cases e;exact⟨by omega,_,Yh,rfl⟩)
 case stop=>
  rintro D k pre V _ _ h _;exact h.elim
theorem aEM {α β:Type} (R:Nat->Option α) (M:Nat->List β):∀l:List Nat,(∀i∈l,R i=none->M i=[])->((l.filterMap fun i=>(R i).map fun x=>(i,x)).flatMap fun x=>M x.1)=l.flatMap M
 |[],_=>rfl
 |i::l,h=>by
  have ih:=aEM R M l (fun j hj=>h j (bF _ hj));cases hr:R i with
  |none=>
   rw[List.filterMap_cons_none (by rw[hr];rfl),ih,cC,h i (aZ ..) hr,aT]
  |some x=>
   rw[List.filterMap_cons_some (b:=(i,x)) (by rw[hr];rfl),cC,ih,cC]
theorem aPe (hs:ByteArray->Nat):∀f,f<=13->aQp hs f
 |0,_=>fun S n₀ w L c v ps hS ht h hn he hp hT=>by
  obtain⟨vl,qs,rfl,h2,rfl,h4⟩:=h;rw[aM]at h2 hn;obtain⟨la,lc,rfl,_⟩:=h2.head.shape;have h:=aB2 hs 0 S n₀ w v ps 0 none 0 0 la qs.length lc noG (fun _=>[]) qs hS ht (AtR.zero S w) (by rw[aM];exact h2.head.cut) h4 hn (fun i _=>rfl) (fun _=>by simp) (.inl rfl) he hO hT;exact h
 |f+1,hf=>fun S n₀ w L c v ps hS ht h hn he hp hT=>by
  obtain⟨b0,vr,R,rfl,dj,hpl⟩:=h.row;obtain⟨bb,va,vn,vc,e⟩:=dj.parts;simp only[gU,dA]at e;obtain⟨rfl,rfl,_⟩:=e;have h:=aB2 hs f S n₀ w v ps bb va vn vc none 0 0 R (fun i=>chE hs (12-f) i L) [] hS ht dj ⟨none,0,rfl,aA _,rfl,.inl ⟨rfl,rfl⟩⟩ (fun q hq=>by cases hq) uAy hpl (fun i=>aI aAC hn) (.inr ⟨aPe hs f hO,by omega⟩) he hO hT;refine h.mono ?_;rintro r w' ⟨v',q2,h1,h2,h3⟩;refine⟨v',q2,h1,h2.trans ?_,h3⟩;rw[gY,fE];unfold iZ;rw[aEM R (fun i=>chE hs (12-f) i L) _ (fun i hi hr=>by
   have hp:=hpl i (jZ.1 hi);rw[hr]at hp;cases hc:chE hs (12-f) i L with
   |nil=>rfl
   |cons a t=>
    rw[hc]at hp;cases t with
    |nil=>obtain⟨_,h,_⟩:=hp;cases h
    |cons b t=>obtain⟨_,_,_,h,_⟩:=hp;cases h)]
  exact aL1 hs (12-f) L
end Go.Proofs.YthmfgidbcghnfaaGreatDoor
namespace Go.Proofs.YthmfgidbcghnfaaGreatDoor
open Go.RowKit Go.Shelf Go.Lib Go.Sort
theorem aTy (hs:ByteArray->Nat) (b1 b2:Nat) (e1 e2:Ent) (w:World) {JK JL:Nat×Nat} (h1:w.heap[b1]? =some (.cells (aG7 hs e1) 213 JK)) (h2:w.heap[b2]? =some (.cells (aG7 hs e2) 213 JL)):
  Calls Tryz.prog 167 #[pv (some b1),pv (some b2)] w fun r w'=>r=.returned (.int .i64 (jA (kb e1.1) (kb e2.1)))/\∃q,w'=w.drewN q:=by
 have c1:w.cell? ⟨b1,0,none⟩=some (.string e1.1):=aG h1 rfl;have c2:w.cell? ⟨b2,0,none⟩=some (.string e2.1):=aG h2 rfl;have HO:=iH (fun w=>aKk e1.1 e2.1 w);unfold pv;clear h1 h2;go_enter Tryz.func167,Tryz.ntmps167;go_upto_region 1 with fail
 go_quiet (first|(go_at_call 168;exact wR ((HO.out _).mono fun _ _ h=>⟨h.1,h.2.symm⟩)))
 go_wp2_with fail
 go_ret;exact⟨rfl,_,rfl⟩
def cf2 {T:Type} (f:T->Ent) (x y:T):Int:=jA (kb (f x).1) (kb (f y).1)
theorem aGe {T:Type} (f:T->Ent) (x y:T):ltOf (cf2 f) x y=decide (kb (f x).1<kb (f y).1):=by
 have h:=vN (kb (f x).1) (kb (f y).1);have hr:=zD (kb (f x).1) (kb (f y).1);unfold ltOf cf2;rw[aB9,<-h];omega
theorem aSb {T:Type} (f:T->Ent):SWO (ltOf (cf2 f)) where
 irrefl x:=by rw[aGe,iD];exact iJ _
 trans x y z h1 h2:=by
  rw[aGe,eI]at h1 h2 ⊢;exact mD h1 h2
 ntrans x y z h1 h2:=by
  rw[aGe,iD]at h1 h2 ⊢;intro h3;rcases tri (f x).1 (f y).1 with h|h|h
  ·exact h1 h
  ·rw[h]at h3;exact h2 h3
  ·exact h2 (mD h h3)
theorem aQP {α:Type} [Inhabited α] (enc:α->Value) (w:World) (p9 off m:Nat) (dk:Array α) (os:Array Obj) {aj:Array Value} {T:TypeId} {fr:Nat×Nat} (h:w.heap[p9]? =some (.cells aj T fr)):∃tl,(sortWorld enc w p9 off m dk os).heap[p9]? =some (.cells tl T fr):=by
 have hlt:=(gZ h)
 unfold sortWorld grow putRow mapBlock;simp only;rw[Array.getElem?_append_left (by simp;exact hlt),Array.getElem?_modify,if_pos rfl];rw[show(Sort.ahead w m).heap=w.heap from rfl,h];exact⟨_,rfl⟩
def aJX (w:World) (v:Value):Prop:=∀(g n c:Nat),v=.slice (some ⟨g,0,none⟩) n c->∃aj,w.heap[g]? =some (.cells aj 211 (0,0))
theorem Eps.typed {B:Nat} {v:Value} {ps:List Nat} {w:World} (h:Eps B v ps w):aJX w v:=by
 obtain⟨⟨_,h2⟩,_⟩:=h;rcases h2 with⟨rfl,_⟩|⟨g,cap,aj,rfl,_,hg,_⟩
 ·intro g n c e
  cases e
 ·intro g' n c e
  simp only[eJ,bA,mE]at e;obtain⟨⟨rfl,_⟩,_⟩:=e;exact⟨aj,hg⟩
theorem aRN (hs:ByteArray->Nat) (S:Nat->Prop) (B:Nat) (w:World) (v:Value) (qs:List (Nat×Ent)) (he:Eps B v (qs.map (·.1)) w) (hq:∀q∈qs,jT hs S w q.1 q.2) (hn:qs.length<=100000):
  Calls Tryz.prog 166 #[v,.func (.func 167) #[] #[]] w fun r w'=>r=.returned (.tuple #[])/\∃Uy:List (Nat×Ent),Uy.Perm qs/\(Uy.map (·.2)).Pairwise (fun a b=>¬kb b.1<kb a.1)/\bY (fun g=>B<=g) w' 1 v (en enE (Uy.map (·.1))) Uy.length/\aJX w' v/\Ap B w w':=by
 rcases fN qs.length with h0|h0
 ·obtain rfl:qs=[]:=aQ h0
  have hc:=pT he.1;have Rp:=he.typed;obtain⟨a,c,rfl⟩:=he.len;have h:=AnyF.slices_SortFunc_none {Tryz.sortL with} a c (.func (.func 167) #[] #[]) w;refine Calls.mono (P:=Tryz.prog) (f:=166) h ?_;rintro r w' ⟨rfl,rfl⟩;exact⟨rfl,[],List.Perm.refl _,List.Pairwise.nil,hc,Rp,Ap.refl _ _⟩
 ·have Eo:=pT he.1
  obtain⟨g,cp,aj,rfl,hB,hg,Jm,ep⟩:∃g c aj,v=.slice (some ⟨g,0,none⟩) qs.length c/\B<=g/\w.heap[g]? =some (.cells aj 211 (0,0))/\qs.length<=c/\∀(j:Nat) (u:Value),(en enE (qs.map (·.1)))[j]? =some u->aj[j]? =some u:=by
   obtain⟨_,⟨g,c,aj,rfl,h1,h2,h3,h4⟩⟩:=(xW he.1 (by rw[aM];exact h0)).2.resolve_left (by rw[aM];omega);rw[aM]at h1;exact⟨g,c,aj,by rw[aM],h2,h3,h1,h4⟩
  have Bh:Inhabited {q:Nat×Ent//q∈qs}:=⟨⟨qs[0],aX h0⟩⟩
  obtain⟨d,hd⟩:∃d:Array {q:Nat×Ent//q∈qs},d=qs.attach.toArray:=⟨_,rfl⟩
  have Lm:d.size=qs.length:=by rw[hd];simp
  have td:d.toList.map Subtype.val=qs:=by rw[hd,aGz];exact List.attach_map_subtype_val qs
  have qh:∀j,j<d.size->qs[j]? =some (d[j]!).1:=fun j hj=>by
   exact Af0
  have Oe:Holds (fun q:{q:Nat×Ent//q∈qs}=>pv (some q.1.1)) w g 0 d:=fun j hj=>by
   have hq:=ep j (pv (some (d[j]!).1.1)) (by rw[zO,qh j hj];rfl);refine⟨by rw[eA];exact aG hg hq,?_⟩;simp[World.frozen?,hg]
  have bn:∀q∈qs,q.1≠g:=fun q Om e=>by
   obtain⟨_,fr,hx⟩:=hq q Om;exact Aj5
  have Hm:CmpReads Tryz.prog 167 #[] (fun q:{q:Nat×Ent//q∈qs}=>pv (some q.1.1)) (cf2 fun q=>q.1.2) g 0 d.size w:=fun m os dk _ x y=>by
   obtain⟨_,fr,hx⟩:=hq x.1 x.2;obtain⟨_,N4,hy⟩:=hq y.1 y.2;have fl:=(vH (fun q:{q:Nat×Ent//q∈qs}=>pv (some q.1.1)) w g 0 m dk os (gZ hx) (bn x.1 x.2)).trans hx;have jb:=(vH (fun q:{q:Nat×Ent//q∈qs}=>pv (some q.1.1)) w g 0 m dk os (gZ hy) (bn y.1 y.2)).trans hy;exact aTy hs x.1.1 y.1.1 x.1.2 y.1.2 _ fl jb
  have eg:∀args w,(callFunc 167 args).run Tryz.prog w=.ok (.enter 167 args) w:=iX Tryz.func167 uAu rfl
  have sf:=Any.slices_SortFunc Tryz.sortL (fun q:{q:Nat×Ent//q∈qs}=>pv (some q.1.1)) (fun _=>rfl) (cf2 fun q=>q.1.2) (aSb _) 167 #[] g 0 cp d w eg Hm.lays Oe (gZ hg) (by rw[Lm];omega);change Calls Tryz.prog 166 _ _ _ at sf
  rw[Lm]at sf;refine sf.mono ?_;rintro r w' ⟨rfl,d',n,os,⟨de,_,ym⟩,yn,rfl⟩;have Mj:d'.size=qs.length:=by rw[de,Lm]
  have wt:d'.toList.Perm d.toList:=by
   have e1:d'.extract 0 qs.length=d':=by rw[<-Mj];simp
   have e2:d.extract 0 qs.length=d:=by rw[<-Lm];simp
   rw[e1,e2]at ym;exact ym
  have Yj:=holds_sortWorld (fun q:{q:Nat×Ent//q∈qs}=>pv (some q.1.1)) w g 0 n d d' os (gZ hg) Oe (by rw[de]);have qw:(d'.toList.map Subtype.val).length=qs.length:=by rw[aM,bM,Mj]
  refine⟨rfl,d'.toList.map Subtype.val,?_,?_,?_,?_,?_⟩
  ·have:=wt.map Subtype.val
   rwa[td]at this
  ·rw[aBH,mB,jF]
   intro i j hi hj CM;rw[bM,Mj]at hi hj;have h:=yn i j (aS _) CM hj;rw[aGe,iD,getElem!_pos d' j hO,getElem!_pos d' i hO]at h;simpa using h
  ·rw[qw]
   refine⟨_,cp,rfl,Jm,by rw[lQ aBA,aM,qw],.inr ⟨g,0,rfl,hB,?_,fun j u hu=> ?_⟩⟩
   ·exact bK (gZ hg) (by simp[sortWorld,grow,putRow,mapBlock])
   ·rw[zO]at hu
    obtain⟨q,qx,rfl⟩:=eR.1 hu;have hj:=(List.getElem?_eq_some_iff.1 qx).1;rw[qw]at hj;have h:=(Yj j hO).1;rw[List.getElem?_map,Array.getElem?_toList,Array.getElem?_eq_getElem hO]at qx;rw[getElem!_pos d' j hO]at h;obtain rfl:=aH qx;exact h
  ·intro g' n' c' e
   simp only[eJ,bA,mE]at e;obtain⟨⟨rfl,_⟩,_⟩:=e;exact aQP _ w _ 0 n d' os hg
  ·exact⟨aNO _ w g 0 n d' os he.2 hB,fun k o hk ho=>(vH _ w g 0 n d' os (gZ hk) (fun e=>by subst e;rw[hg]at hk;cases hk;exact ho _ _ rfl)).trans hk⟩
end Go.Proofs.YthmfgidbcghnfaaGreatDoor
namespace Go.Proofs.YthmfgidbcghnfaaGreatDoor
open Go.RowKit
abbrev aA5 (M:List ByteArray):Prop:=M.Pairwise fun a b=>kb a<kb b
def aDY (M:List ByteArray) (t:ByteArray):Option Nat:=M.findIdx? fun y=>decide (y=t)
theorem aHT {M:List ByteArray} {t:ByteArray} {j:Nat} (h:aDY M t=some j):∃hj:j<M.length,M[j]=t:=by
 obtain⟨hj,h1,_⟩:=List.findIdx?_eq_some_iff_getElem.1 h;exact⟨hj,by simpa using h1⟩
theorem aHU {M:List ByteArray} {t:ByteArray} (h:aDY M t=none):t∉M:=fun hm=>by
 have:=(List.findIdx?_eq_none_iff.1 h) t hm;simp at this
theorem aLX {M:List ByteArray} (h:aA5 M) {i j:Nat} (hi:i<M.length) (hj:j<M.length) (e:M[i]=M[j]):i=j:=by
 rcases Nat.lt_trichotomy i j with hl|hl|hl
 ·exact absurd e (qE (jF.1 h i j hi hj hl))
 ·exact hl
 ·exact absurd e.symm (qE (jF.1 h j i hj hi hl))
section
variable {M : List ByteArray} {l : List Cel} {t : ByteArray} {c : Cel}
theorem nH (h:aA5 M) (hl:M.length=l.length):jX (M.zip l):=by
 unfold jX;have e:(M.zip l).map (·.1)=M:=tM M l hl;rw[<-mB (f:=fun x:Ent=>x.1) (R:=fun a b=>kb a<kb b),e];exact h
theorem yT {e:Ent}:e∈M.zip l↔∃i:Nat,M[i]? =some e.1/\l[i]? =some e.2:=by
 rw[List.mem_iff_getElem?];constructor
 ·rintro⟨i,h⟩
  obtain⟨h1,h2⟩:=List.getElem?_zip_eq_some.1 h;exact⟨i,h1,h2⟩
 ·rintro⟨i,h1,h2⟩
  exact⟨i,List.getElem?_zip_eq_some.2 ⟨h1,h2⟩⟩
theorem aG4 (h:aA5 M) (hl:M.length=l.length) {j:Nat} (hi:aDY M t=some j):∃hj:j<l.length,jB (M.zip l) t=some l[j]:=by
 obtain⟨hj,e⟩:=aHT hi;refine⟨by omega,(aRR (nH h hl)).2 (yT.2 ⟨j,?_,?_⟩)⟩
 ·rw[List.getElem?_eq_getElem hj,e]
 ·rw[List.getElem?_eq_getElem]
theorem aG5 (hi:aDY M t=none):jB (M.zip l) t=none:=aHY.2 fun e he h=>by
 obtain⟨i,h1,_⟩:=yT.1 he;exact aHU hi (h▸fK h1)
theorem aRQ (h:aA5 M) (hl:M.length=l.length) (t:ByteArray):jB (M.zip l) t=(aDY M t).bind fun j=>l[j]? :=by
 cases hi:aDY M t with
 |none=>rw[aG5 hi];rfl
 |some j=>
  obtain⟨hj,e⟩:=aG4 h hl hi;rw[e,lH,List.getElem?_eq_getElem hj]
theorem aHa {L K:List Ent} (hL:jX L) (hK:jX K) (h:∀e,e∈L↔e∈K):L=K:=
 aEh hL hK ((List.perm_ext_iff_of_nodup (hL.imp fun h e=>qE h (aU Prod.fst e)) (hK.imp fun h e=>qE h (aU Prod.fst e))).2 h)
theorem aHQ (h:aA5 M) (hl:M.length=l.length) {j:Nat} (hi:aDY M t=some j):nD (M.zip l) t c=M.zip (l.set j c):=by
 obtain⟨hj,e⟩:=aHT hi;refine aHa ((nH h hl).ins t c) (nH h uNw) fun x=> ?_
 rw[aKq,yT,yT];constructor
 ·rintro(rfl|⟨⟨i,h1,h2⟩,bn⟩)
  ·exact⟨j,by rw[List.getElem?_eq_getElem hj,e],by rw[List.getElem?_set_self hO]⟩
  ·refine⟨i,h1,?_⟩
   rw[List.getElem?_set_ne (fun e'=>bn ?_)]
   ·exact h2
   ·subst e'
    rw[List.getElem?_eq_getElem hj,e]at h1;exact(aH h1).symm
 ·rintro⟨i,h1,h2⟩
  by_cases e':j=i
  ·subst e'
   rw[List.getElem?_eq_getElem hj,e]at h1;rw[List.getElem?_set_self hO]at h2;left;obtain⟨x1,x2⟩:=x;rw[aH h1,aH h2]
  ·rw[List.getElem?_set_ne e']at h2
   refine .inr ⟨⟨i,h1,h2⟩,fun e2=>e' ?_⟩;obtain⟨Pm,e3⟩:=List.getElem?_eq_some_iff.1 h1;exact aLX h hj Pm (by rw[e,e3,e2])
theorem aNk (hl:M.length=l.length) (n:Nat):(eN n M t).zip (eN n l c)=eN n (M.zip l) (t,c):=by
 unfold eN;have e1:(M.zip l).take n=(M.take n).zip (l.take n):=by simp only[List.zip,List.take_zipWith]
 have e2:(M.zip l).drop n=(M.drop n).zip (l.drop n):=by simp only[List.zip,List.drop_zipWith]
 rw[List.zip_append (by simp[hl]),aIN,e1,e2]
theorem aB1 (h:aA5 M) (hl:M.length=l.length) (hi:aDY M t=none):nD (M.zip l) t c=(eN (eX M t) M t).zip (eN (eX M t) l c):=by
 have hn:=aHU hi;refine aHa ((nH h hl).ins t c) (nH (aM1 h hn) (by rw[aHf,aHf,hl])) fun x=> ?_
 rw[aNk hl,aKq,(aAj _ _ _).mem_iff,bL];refine or_congr Iff.rfl ⟨fun h=>h.1,fun h'=>⟨h',fun e=> ?_⟩⟩;obtain⟨i,h1,_⟩:=yT.1 h';exact hn (e▸fK h1)
end
theorem aGk {a:Tr} (h:a.k=5\/a.k=6) (i:Int) (t:ByteArray):atT a i t=aDY (qD a.k a.ks a.xs) t:=by
 unfold atT qD aDY;rcases h with h|h
 ·rw[if_neg hO,if_pos h,if_pos h]
 ·rw[if_neg hO,if_neg hO,if_neg hO,if_pos h,List.findIdx?_map]
  congr 1
  funext y
  simp[aTs]
end Go.Proofs.YthmfgidbcghnfaaGreatDoor
