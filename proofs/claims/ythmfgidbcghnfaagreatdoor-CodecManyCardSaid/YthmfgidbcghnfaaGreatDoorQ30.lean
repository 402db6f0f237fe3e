import Derived.Test.YthmfgidbcghnfaaGreatDoorQ0
import Derived.Test.YthmfgidbcghnfaaGreatDoorQ28
set_option maxRecDepth 1000000
set_option maxHeartbeats 8000000
set_option linter.unusedSimpArgs false
namespace Go.Proofs.YthmfgidbcghnfaaGreatDoor
open Go.RowKit
def aI6 (k:Int) (z:ByteArray) (x:Tr):List UInt8:=(if k=5 then gI (kb z)++[58]else[])++eY x
theorem aEQ {k:Int}:∀{xs:List Tr} {ks:List ByteArray} {j:Nat} (hj:j<xs.length),nK k ks (xs.take (j+1))=nK k ks (xs.take j)++44::aI6 k (ks.getD j ⟨#[]⟩) xs[j]
 |[],_,_,h=>by simp at h
 |x::r,ks,0,_=>by
  rw[dC,eF,eF,nK,nK,nK,aT];unfold aI6;rw[fE,aBI];cases ks<;>rfl
 |x::r,ks,j+1,h=>by
  have ih:=aEQ (k:=k) (xs:=r) (ks:=ks.tail) (j:=j) uDu;rw[dC,dC,nK,nK,ih,nO];have e:ks.tail.getD j ⟨#[]⟩=ks.getD (j+1) ⟨#[]⟩:=by cases ks<;>simp
  rw[e];simp only[bG,aP]
theorem aES {k:Int} {xs:List Tr} {ks:List ByteArray} {j:Nat} (hj:j<xs.length):kU k ks (xs.take (j+1))=kU k ks (xs.take j)++((if 0<j then[44]else[])++aI6 k (ks.getD j ⟨#[]⟩) xs[j]):=by
 have h:=aEQ (k:=k) (ks:=ks) hj;cases xs with
 |nil=>simp at hj
 |cons x r=>
  rw[dC,nV]at h;rw[dC];cases j with
  |zero=>
   simp only[eF,nK,aT,dA,yA]at h;rw[eF,h,eF,kU,if_neg uAv];rfl
  |succ j=>
   rw[dC,nV,aP,dA]at h;rw[h.2,dC,if_pos (Nat.succ_pos j)];rfl
theorem aKS {k:Int}:∀{xs:List Tr} {ks:List ByteArray} (n:Nat),(nK k ks (xs.take n)).length<=(nK k ks xs).length
 |[],_,n=>by rw[aIH];exact aA _
 |x::r,ks,0=>by rw[eF,nK];exact aS _
 |x::r,ks,n+1=>by
  have:=aKS (k:=k) (xs:=r) (ks:=ks.tail) n;rw[dC,nK,nK];simp only[aD,aB];omega
theorem aS0 {k:Int} {xs:List Tr} {ks:List ByteArray} (n:Nat):(kU k ks (xs.take n)).length<=(kU k ks xs).length:=by
 cases xs with
 |nil=>rw[aIH];exact aA _
 |cons x r=>
  cases n with
  |zero=>rw[eF,kU];exact aS _
  |succ n=>
   have:=aKS (k:=k) (xs:=x::r) (ks:=ks) (n+1);rw[dC,nV,nV]at this;rw[dC];simpa using this
theorem mS_le {B:Nat} {k n:Int} {t:ByteArray} (ht:t.size<=B) (hn:InR n):mS k n t<=4*B+23:=by
 have h1:=Lib.itoa_length_le n hn.1 hn.2;have h2:=aAh (kb t);have h3:(kb t).length=t.size:=bM;unfold mS
 repeat' split
 all_goals omega
theorem aSE {B:Nat}:∀{ks:List ByteArray},(∀z∈ks,z.size<=B)->mK ks<=ks.length*(4*B+3)
 |[],_=>by rw[mK];exact aS _
 |z::r,h=>by
  have h1:=aSE (ks:=r) fun y hy=>h y (bF _ hy)
  have h2:=aAh (kb z);have h3:(kb z).length=z.size:=bM;have h4:=h z (aZ ..);rw[mK,aD,fJ];omega
theorem mT_le {B:Nat} (a:Tr):OkT a->kK B a->xR a->mT a+(4*B+4)<=eW a*(8*B+30):=by
 induction a using kD with
 |h k n t ks xs ih=>
  intro ho ht hr;obtain⟨h1,h2,h3⟩:=fO.1 ht;obtain⟨r1,r2⟩:=qT.1 hr;have Qt:=rO.1 ho;simp only[Tr.k,Tr.n,Tr.t,Tr.ks,Tr.xs]at h1 h2 h3 r1 r2 Qt;have hL:∀(l:List Tr),(∀x∈l,mT x+(4*B+4)<=eW x*(8*B+30))->mL l+l.length*(4*B+3)<=cU l*(8*B+30):=by
   intro l;induction l with
   |nil=>intro _;rw[mL];simp
   |cons x r Lx=>
    intro hi;have a1:=hi x (aZ ..);have a2:=Lx fun y hy=>hi y (bF _ hy)
    rw[mL,cU,aD,fJ,fJ];omega
  have h4:=hL xs fun x hx=>ih x hx (Qt.2.1 x hx) (h3 x hx) (r2 x hx)
  have h5:ks.length<=xs.length:=by
   rcases aAl.1 Qt.1 with⟨_,_,_,h,_⟩|⟨_,_,⟨_,h⟩|⟨_,h,_⟩|⟨_,h⟩⟩<;>simp only[Tr.ks,Tr.xs]at h
   ·rw[h];exact aS _
   ·rw[h];exact aS _
   ·omega
   ·rw[h];exact aS _
  have h6:=aSE h2;have h7:=cS (4*B+3) h5;have h8:=mS_le (k:=k) h1 r1;rw[mT,eW,fJ,aFa];omega
theorem aRZ {a:Tr} (h:fQ a):(eY a).length<=270000000000:=by
 have h1:=aKR a h.1.1;have h2:=mT_le a (aRP a h.1.1) h.2 (zM a h.1.1);have h3:=cS (8*2000000+30) h.1.2.2;omega
open Go.Shelf
attribute [local go_sem] fS
theorem aLK {L M:List Ent} (hL:jX L) (hp:M.Perm L) (hs:M.Pairwise fun a b=>¬kb b.1<kb a.1):M=L:=by
 have hd:M.Pairwise fun a b=>a.1≠b.1:=(List.Perm.pairwise_iff (R:=fun(a b:Ent)=>a.1≠b.1) (fun h=>kX h) hp).2 (oQ (fun h=>qE h) hL)
 have hr:jX M:=by
  refine oQ ?_ (List.Pairwise.and hs hd);rintro a b ⟨h1,h2⟩;rcases tri a.1 b.1 with h|h|h
  ·exact h
  ·exact absurd h h2
  ·exact absurd h h1
 exact aEh hr hL hp
theorem aI3 {o:Oper} {a:Act} {K:Act->World->Prop} {Q:Exit->Act->World->Prop} {w:World} (l c:Operand) (Pi:o.op=.makeSlice 132 l c)
  {B:Nat} (kl kc:IntKind) (C:Int) (n:Nat) (hl:a.eval l=.int kl 0) (hc:a.eval c=.int kc C) (hC:C=(n:Int)) (hn:n<=10000000) (hB:B<=w.heap.size)
  (h:∀w',Eps B (.slice (some ⟨w.heap.size,0,none⟩) 0 n) [] w'->Below w.heap.size w w'->K (a.put o.dst (.slice (some ⟨w.heap.size,0,none⟩) 0 n)) w'):o.wp Tryz.prog a w K Q:=by
 obtain⟨i,hi,hz,h1,h2⟩:=dO sU;obtain⟨w',cr,r1,r2⟩:=run_make_own (P:=Tryz.prog) w B 132 211 i (.pointer none) 1 Tryz.underlying132 hi hz h1 kl kc n uRx uCx hB;subst hC;unfold Oper.wp;simp[execOp,Pi,hl,hc,cr,Result.andThen];have hb:Below w.heap.size w w':=(bB _ _).grown r2 (aA _) (fun k hk=>by cases hk);exact h w' ⟨r1,aI hB hb.size⟩ hb
theorem aJD {B g n:Nat} {w:World} (h:Eps B (.slice (some ⟨g,0,none⟩) 0 n) [] w):g<w.heap.size:=by
 obtain⟨aj,hc⟩:=h.typed g 0 n rfl;exact(gZ hc)
def LstE (B:Nat) (w:World) (v:Value) (qs:List (Nat×Ent)):Prop:=∃(a:Option Addr) (c:Nat),v=.slice a qs.length c/\(0<qs.length->∃g aj,a=some ⟨g,0,none⟩/\B<=g/\w.heap[g]? =some (.cells aj 211 (0,0))/\∀j (hj:j<qs.length),aj[j]? =some (pv (some qs[j].1)))
theorem aTm {B B':Nat} {w:World} {v:Value} {qs:List (Nat×Ent)} (hv:∃a c,v=.slice a qs.length c/\(∀p,a=some p->p.off=0/\p.spot=none)) (hc:bY (fun g=>B<=g) w 1 v (en enE (qs.map (·.1))) qs.length) (hT:aJX w v) (hB:B'<=B):LstE B' w v qs:=by
 obtain⟨a,c,rfl,h0⟩:=hv;refine⟨a,c,rfl,fun hp=> ?_⟩;obtain⟨g,o,c',e,_,hg,_,gr⟩:=hc.pos hp;simp only[eJ]at e;obtain⟨rfl,_,rfl⟩:=e;obtain⟨rfl,_⟩:=h0 _ rfl;obtain⟨aj,Fe⟩:=hT g _ _ rfl;refine⟨g,aj,rfl,aI hB hg,Fe,fun j hj=> ?_⟩;have h:=gr j (pv (some qs[j].1)) (by rw[zO,List.getElem?_eq_getElem hj];rfl);rw[eA,jK Fe]at h;exact h
theorem aJz {S:Nat->Prop} (w:World) (s:Nat) (n:Int) (L:List Ent) (c:Array Value) (h:fG S w s n L c) (hL:jX L) (hn:L.length<=50000) (hT:iF w):
  Calls Tryz.prog 134 #[.agg c] w fun r w'=>∃(v:Value) (qs:List (Nat×Ent)),r=.returned v/\qs.map (·.2)=L/\(∀q∈qs,jT (hsN s n) (fun g=>S g/\g<w.heap.size) w' q.1 q.2)/\LstE w.heap.size w' v qs/\Below w.heap.size w w'/\w.heap.size+2<=w'.heap.size:=by
 have Ju:4<w.heap.size:=aO w _ (hT 0 uAv);obtain⟨bb,a1,n1,c1,a2,n2,c2,rfl,oh⟩:=h;obtain⟨l,hl⟩:∃l,l=L.length:=⟨_,rfl⟩
 rw[<-hl];obtain⟨w1,ag⟩:∃w1,w.alloc (.cells #[.int .u64 (s:Int),.int .i64 n,.int .i64 ((l:Nat):Int),.int .u32 (bb:Int),.slice a1 n1 c1,.slice a2 n2 c2] 136)=w1:=⟨_,rfl⟩
 obtain⟨af,ai,al⟩:=fH ag;have Ym:Hid (∀W,Below w1.heap.size w1 W->∀v,Eps w.heap.size v [] W->Calls Tryz.prog 165 #[.agg #[.int .u32 (bb:Int),.slice a1 n1 c1,.slice a2 n2 c2],v] W (aK3 (hsN s n) (fun g=>S g/\g<w.heap.size) w.heap.size W [] L)):=fun W hW v hv=>
  aPe (hsN s n) 13 (aA _) (fun g=>S g/\g<w.heap.size) w.heap.size W L _ v [] (fun g h=>h.2) Ju (oh.old.later (tW af hW)) hn hv uAy (hT.below (tW af hW))
 have HX1:=iH ai;have HB1:=iH af;have HS1:=iH al;have nr:Hid (l<=50000):=by show _<=_;omega
 have HL:=iH (And.intro hL hl);have ar:Hid (∀V,Below w1.heap.size w1 V->(V.heap[w.heap.size]? =some (.cells #[.int .u64 (s:Int),.int .i64 n,.int .i64 ((l:Nat):Int),.int .u32 (bb:Int),.slice a1 n1 c1,.slice a2 n2 c2] 136 (0,0))/\V.cell? ⟨w.heap.size,2,none⟩=some (.int .i64 (l:Int)))):=fun V hV=>by
  have h:=(hV.block _ uBu).trans HX1.out;exact⟨h,aG h rfl⟩
 have HW:Hid (Below w1.heap.size w1 w1.drew):=aY w1;clear oh ai af al hT hn hL hl Ju;go_enter Tryz.func134,Tryz.ntmps134;go_upto_region 1 with fail
 clear ag;refine bO (S:=(fun V=>V.heap[w.heap.size]? =some (.cells #[.int .u64 (s:Int),.int .i64 n,.int .i64 ((l:Nat):Int),.int .u32 (bb:Int),.slice a1 n1 c1,.slice a2 n2 c2] 136 (0,0))/\V.cell? ⟨w.heap.size,2,none⟩=some (.int .i64 (l:Int)))) [] uAu uHv (fun ab=> ?_);refine tkA 0 4 (h:=?_);refine tyA 1 5 (hy:=dX uAz 134 _ rfl w.heap.size 3 rfl #[.int .u32 (bb:Int),.slice a1 n1 c1,.slice a2 n2 c2] _ (fun w hw=>(qP hw.1)) Tryz.underlying134 rfl uYu) (h:=?_);(try simp only[pq]);refine tkA 2 6 (h:=?_);refine tkA 3 7 (h:=?_);(try simp only[pq]);refine tkO 4 (some 8) (h:=fun K hK=> ?_);rw[if_pos uAz];refine aI3 _ _ rfl (B:=w.heap.size) .i64 .i64 _ l rfl rfl rfl uWz (by have:=HW.out.size;have:=HB1.out.size;omega) ?_;intro w3 P5 hb;have JS:=iH P5;have je:Hid (w.heap.size+1<=w1.drew.heap.size):=by show _<=_;have:=HW.out.size;have:=HS1.out;omega
 replace HW:=iH (tW HW.out hb);have Yn:Hid (w.heap.size+2<=w3.heap.size):=by
  show _<=_;have:=aJD P5;have:=je.out;omega
 clear P5 hb;refine hK.out _ _ uHv (fun ab=> ?_);clear hK K;(try simp only[pq]);refine tkO 5 (some 9) (h:=fun K hK=> ?_);go_simp;go_at_call 165;refine(Ym.out w3 uBx _ JS.out).mono ?_;rintro r w4 ⟨v4,U3,rfl,Ql,Ot,DF,U4⟩;have Ii:=iH Ql;have Mq:=iH Ot;have If:=iH DF;have JT:=iH U4;have JU:Hid (Below w.heap.size w1 w4):=by show Below _ _ _;exact(HW.out.mono HB1.out.size).trans U4.below
 have bw:Hid (w4.heap[w.heap.size]? =some (.cells #[.int .u64 (s:Int),.int .i64 n,.int .i64 ((l:Nat):Int),.int .u32 (bb:Int),.slice a1 n1 c1,.slice a2 n2 c2] 136 (0,0))):=U4.row ((HW.out.block _ uBu).trans HX1.out) uAv;clear Ql Ot DF U4;dsimp only;refine hK.out _ _ uHv (fun ab=> ?_);clear hK K;(try simp only[pq]);refine tkA 6 3 (h:=?_);(try simp only[pq]);refine bJ uAu ?_ _;clear ab;have jz:U3.length<=50000:=by
  have h:=Ii.out.length_eq;rw[aM]at h;have:=nr.out;have:=HL.out.2;omega
 have Rx:Hid (Eps w.heap.size v4 (U3.map (·.1)) w4):=If.out;have Ry:=aRN (hsN s n) (fun g=>S g/\g<w.heap.size) w.heap.size w4 v4 U3 Rx.out Mq.out hO;have Yo:=iH Ry;clear Ry;go_wp2_with (go_at_call 166;(with_reducible refine Yo.out.mono ?_);rintro r w5 ⟨rfl,rq,sb,ki,nf,Hn,Ou⟩;have nu:=iH (And.intro sb (And.intro ki (And.intro nf (And.intro Hn Ou))));clear sb ki nf Hn Ou)
 obtain⟨sb,ki,nf,Hn,Ou⟩:=nu.out;have yl:rq.length=U3.length:=sb.length_eq;have hv:∃a c,v4=.slice a rq.length c/\(∀p,a=some p->p.off=0/\p.spot=none):=by
  obtain⟨⟨_,h2⟩,_⟩:=Rx.out;rw[aM]at h2;rcases h2 with⟨rfl,h2⟩|⟨g,cap,aj,rfl,_⟩
  ·exact⟨none,0,by rw[yl,h2],fun p e=>by cases e⟩
  ·exact⟨_,_,by rw[yl],fun p e=>by cases e;exact⟨rfl,rfl⟩⟩
 have Yp:Below w.heap.size w w5:=(HB1.out.trans JU.out).trans Ou.below;have Yq:∃(v:Value) (qs:List (Nat×Ent)),Ending.returned v4=.returned v/\qs.map (·.2)=L/\(∀q∈qs,jT (hsN s n) (fun g=>S g/\g<w.heap.size) w5 q.1 q.2)/\LstE w.heap.size w5 v qs/\Below w.heap.size w w5/\w.heap.size+2<=w5.heap.size:=by
  refine⟨v4,rq,rfl,aLK HL.out.1 ((sb.map _).trans Ii.out) ki,fun q hq=> ?_,aTm hv nf Hn (aA _),Yp,?_⟩
  ·exact(Mq.out q (sb.mem_iff.1 hq)).kp (Ou.kp fun g h=>h.2)
  ·have h1:=Yn.out
   have h2:=JT.out.below.size;have h3:=Ou.below.size;omega
 go_ret;exact Yq
end Go.Proofs.YthmfgidbcghnfaaGreatDoor
namespace Go.Proofs.YthmfgidbcghnfaaGreatDoor
open Go.RowKit Go.Shelf
attribute [local go_sem] fS
abbrev encM (e:Ent):Array Value:=#[.string e.1,.agg (aL e.2)]
structure aIF (RK IK:Nat->World->World->Prop) (n₀:Nat):Prop where
 new:∀{Y:Nat} {A B:World},Below A.heap.size A B->Y<=A.heap.size->IK Y A B
 low:∀{Y:Nat} {A B:World},RK Y A B->Below n₀ A B
 lists:∀{Y:Nat} {A B:World},RK Y A B->TK 211 A B
theorem aAX {Ts:TypeId->Prop} (n₀:Nat) (h1:¬Ts 211):aIF (fun Y A B=>KW Ts n₀ Y A B) (fun Y A B=>IKW Ts Y A B) n₀ where
 new:=fun h hY=>IKW.below h hY
 low:=fun h=>h.1
 lists:=fun h i cs fr e=>h.2.2.1 i cs _ fr e h1
theorem aEJ (n:Nat) (c:Array Value) (w:World):
  CallsIn Fence.wide n Tryz.prog 98 #[.agg c] w fun e w'=>e=.returned (.func (.func 133) #[] #[.pointer (some ⟨w.heap.size,0,none⟩)])/\w'=w.alloc (.cells c 136):=by
 refine iO Tryz.func98 rfl trivial ?_ rfl;simp only[Tryz.ntmps98,bI,aD,aK,Nat.reduceAdd,Nat.reduceSub,bT,bS,cH,bU,aT,aP];gi_wp2
 go_ret;exact⟨rfl,rfl⟩
theorem aKM {RK IK:Nat->World->World->Prop} (Bs n₀:Nat) (ei:aIF RK IK n₀) (s:Nat) (n:Int) (L:List Ent) (c:Array Value) (w:World) (b8:n₀<=w.heap.size) (hX:w.heap[Bs]? =some (.cells c 136 (0,0))) (hv:fG (fun g=>g<n₀) w s n L c) (hL:jX L) (hN:L.length<=50000) (hT:iF w):
  aLg Tryz.prog 133 #[.pointer (some ⟨Bs,0,none⟩)] encM RK IK (fun ys=>ys=L) (fun pre=>pre<+:L) (fun pre=>pre<+:L) w:=by
 intro l J Jx W hW hA hY h0 m;have Br:=(gZ hX)
 have HX:=iH ((hW.block _ Br).trans hX);have Qe:n₀<=W.heap.size:=aI b8 hW.size;have Yr:=iH ((dD (n:=m-1)).2 (aJz W s n L c (hv.kp (Kp.low (hW.mono b8) (fun g h=>h))) hL hN (hT.below hW)));have JV:=iH hv.size;have Ua:=iH hA;have HY:=iH (hY (m-1));have tr:=iH Qe;have HN:=iH hN;have oz:=iH ei;clear hX hv hN hT hA hY Br Qe hL ei;refine iO Tryz.func133 rfl trivial ?_ rfl;simp only[Tryz.ntmps133,bI,aD,aK,Nat.reduceAdd,Nat.reduceSub,bT,bS,cH,bU,aT,aP];gi_wp2_with (first
  |(refine zJ rfl 136 _ rfl Bs rfl 136 _ _ _ HX.out Tryz.underlying136 rfl (by rw[JV.out];exact gP) ?_))
 refine⟨trivial,fun h=>absurd h uIx,?_⟩;refine Yr.out.mono ?_;rintro r w1 ⟨v,qs,rfl,hq,he,hl,hb,de⟩;obtain⟨a,cp,rfl,hl⟩:=hl;obtain⟨N,E0⟩:∃N,N=qs.length:=⟨_,rfl⟩
 have U5:N=L.length:=by rw[E0,<-hq,aM]
 rw[<-E0];have JW:=iH (Ua.out _ _ _ h0 (oz.out.new hb (aA _)));have HB1:=iH hb;have nm:=iH de;have rl:=iH hl;have HE:=iH he;have HQ:=iH (And.intro hq (And.intro E0 U5));have NG:(N:Int)<=50000:=by have:=HN.out;omega
 have JX:=iH (hb.mono tr.out);clear h0 hb de hl he hq E0 U5;gi_wp2
 gi_loopw [8] (fun i wr=>∃k:Nat,i=.int .i64 (k:Int)/\k<=N/\Hid (J (L.take k) wr)/\Hid (Below n₀ W wr)/\Hid (TK 211 w1 wr)/\Hid (W.heap.size+2<=wr.heap.size)) (fun i _=>N-(intOf i).toNat)
 case atStart=>exact⟨0,rfl,aS _,(by simpa using JW),JX,TK.refl _ _,nm⟩
 case round=>
  obtain⟨k,rfl,hk,Ys,j7,vi,vu⟩:=hrel;by_cases hlt:k<N
  ·obtain⟨hq,E0,U5⟩:=HQ.out
   obtain⟨g,aj,rfl,hg,Fe,Ig⟩:=rl.out hO;have Yt:k<qs.length:=by omega
   have U6:k<L.length:=by omega
   have DG:L[k]=qs[k].2:=by
    have e:(qs.map (·.2))[k]? =L[k]? :=by rw[hq]
    rw[List.getElem?_map,List.getElem?_eq_getElem Yt,List.getElem?_eq_getElem U6]at e;exact(aH e).symm
   obtain⟨⟨B1,dy⟩,fr,bf⟩:=HE.out _ (aX Yt);have U7:wr.heap[qs[k].1]? =some (.cells (aG7 (hsN s n) qs[k].2) 213 fr):=(j7.out.block _ B1).trans ((HB1.out.block _ dy).symm.trans bf);have DH:wr.cell? ⟨g,k,none⟩=some (pv (some qs[k].1)):=aG (vi.out _ _ _ Fe) (Ig k hO);have B2:=iH (bP U6);have Oi:=iH (HY.out (L.take k) L[k] wr.drew (Ua.out _ _ _ Ys.out (oz.out.new (aY wr) (by have:=vu.out;omega))) (by have:=vu.out;show _<=wr.heap.size;omega) (by rw[<-bP U6];exact tL _ _));rw[DG]at Oi B2;obtain⟨⟨b,e⟩,DI⟩:∃q,q=qs[k]:=⟨_,rfl⟩
   rw[<-DI]at Oi B2 U7 DH;have Ue:wr.drew.cell? ⟨b,0,none⟩=some (.string e.1):=aG U7 rfl;have DJ:wr.drew.rangeAt b 2 (enV e.2):=aEP (W:=wr.drew) U7;have vf:=iH (And.intro Ue DJ);have l0:(k:Int)<N:=by omega
   have ew:=iH hlt;unfold pv at DH;clear DI U7 bf B1 dy DG Yt U6 Fe Ig hg hq E0 U5 Ue DJ;gi_wp2
   refine xU (S:=fun V=>V.cell? ⟨b,0,none⟩=some (.string e.1)/\V.rangeAt b 2 (enV e.2)) [9,10] uAu vf.out (fun ab=> ?_);refine gR (i:=0) (oi:=⟨some 12,_,_,_,_,_⟩) (v:=?v0) rfl uAu uAu uAu uAu (fun _ _ _ h=>h) (Or.inl ⟨by rfl,?h0⟩) uCw ?r0
   case h0=>(intro w jy;(try dsimp only at jy);first|(go_simp;done)|(go_simp;with_reducible rfl))
   (try simp only[pq]);refine gR (i:=1) (oi:=⟨some 13,_,_,_,_,_⟩) (v:=?v1) rfl uAu uAu uAu uAu (fun _ _ _ h=>h) (Or.inl ⟨by rfl,?h1⟩) uCw ?r1
   case h1=>(intro w jy;(try dsimp only at jy);first|(go_simp;done)|(go_simp;with_reducible rfl))
   (try simp only[pq]);refine gR (i:=2) (oi:=⟨some 14,_,_,_,_,_⟩) (v:=?v2) rfl uAu uAu uAu uAu (fun _ _ _ h=>h) (Or.inl ⟨by rfl,?h2⟩) uCw ?r2
   case h2=>(intro w jy;(try dsimp only at jy);first|(go_simp;done)|(go_simp;with_reducible rfl))
   (try simp only[pq]);refine gR (i:=3) (oi:=⟨some 15,_,_,_,_,_⟩) (v:=?v3) rfl uAu uAu uAu uAu (fun _ _ _ h=>h) (Or.inl ⟨by rfl,?h3⟩) uCw ?r3
   case h3=>(intro w jy;(try dsimp only at jy);first|(go_simp;done)|(go_simp;with_reducible rfl))
   (try simp only[pq]);refine gR (i:=4) (oi:=⟨some 16,_,_,_,_,_⟩) (v:=?v4) rfl uAu uAu uAu uAu (fun _ _ _ h=>h) (Or.inl ⟨by rfl,?h4⟩) uCw ?r4
   case h4=>(intro w jy;(try dsimp only at jy);first|(go_simp;done)|(go_simp;with_reducible rfl))
   (try simp only[pq]);refine gR (i:=5) (oi:=⟨some 17,_,_,_,_,_⟩) (v:=?v5) rfl uAu uAu uAu uAu (fun _ _ _ h=>h) (Or.inl ⟨by rfl,?h5⟩) uCw ?r5
   case h5=>(intro w jy;(try dsimp only at jy);first|(go_simp;done)|(go_simp;with_reducible rfl))
   (try simp only[pq]);refine gR (i:=6) (oi:=⟨some 18,_,_,_,_,_⟩) (v:=?v6) rfl uAu uAu uAu uAu (fun _ _ _ h=>h) (Or.inl ⟨by rfl,?h6⟩) uCw ?r6
   case h6=>(intro w jy;(try dsimp only at jy);first|(go_simp;done)|(go_simp;with_reducible rfl))
   (try simp only[pq]);refine gR (i:=7) (oi:=⟨some 19,_,_,_,_,_⟩) (v:=?v7) rfl uAu uAu uAu uAu (fun _ _ _ h=>h) (Or.inl ⟨by rfl,?h7⟩) uCw ?r7
   case h7=>(intro w jy;(try dsimp only at jy);first|(go_simp;done)|(go_simp;with_reducible rfl))
   (try simp only[pq]);refine gR (i:=8) (oi:=⟨some 20,_,_,_,_,_⟩) (v:=_) rfl uAu uAu uAu uAu (fun _ _ _ h=>h) (dX uAz 37 _ rfl b 2 rfl (aL e.2) _ (fun w hw=>hw.2) Tryz.underlying37 rfl aF) uCw ?_;(try simp only[pq]);obtain⟨fn,tmps,assign,body,hy,hR⟩:=Oi.out;unfold encM at hy;(try dsimp only at hy);refine nS (i:=9) (o:=⟨some 21,_,_,_,_,_⟩) uAu uAv rfl (fun K hK=> ?_);rw[if_pos uAz];go_simp;refine⟨fun h=>absurd h uIx,?_⟩;refine hR.mono ?_;rintro e' W3 (⟨rfl,Ub,nh⟩|⟨rfl,Hq⟩)
   ·have Lq:=iH Ub
    have gb:=iH nh;refine hK.out _ _ ?_;clear hK K hR hy Ub nh;(try simp only[pq]);refine nS (i:=10) (o:=⟨some 22,_,_,_,_,_⟩) uAu uAv rfl (fun K hK=> ?_);rw[if_pos uAz];go_simp;refine hK.out _ _ ?_;clear hK K;(try simp only[pq]);refine rI uAu ?_ _;gi_wp2
    go_roundw
    case rel=>
     have h1:=oz.out.low gb.out;have h4:=oz.out.lists gb.out;refine⟨k+1,by simp,by have:=ew.out;omega,?_,j7.out.trans (((aY wr).mono (by have:=tr.out;have:=vu.out;omega)).trans h1),vi.out.trans (fun i cs fr h=>h4 i cs fr h),aI vu.out h1.size⟩;rw[B2.out];exact Lq
    case measure=>have:=ew.out;simp[intOf];omega
   ·have Lq:=iH Hq
    refine hK.out _ _ ?_;clear hK K hR hy Hq;(try simp only[pq]);refine nS (i:=10) (o:=⟨some 22,_,_,_,_,_⟩) uAu uAv rfl (fun K hK=> ?_);rw[if_pos uAz];go_simp;refine hK.out _ _ ?_;clear hK K;(try simp only[pq]);refine rI uAu ?_ _;gi_wp2
    refine aN (pQ rfl _ _ _) rfl ?_;refine⟨⟨_,rfl⟩,.inr ⟨_,?_,Lq.out⟩⟩;rw[<-B2.out];exact tL _ _
  ·obtain rfl:k=N:=by omega
   have e:L.take k=L:=bC (by have:=HQ.out.2.2;omega);rw[e]at Ys;clear e;gi_wp2
   go_end0;exact⟨⟨_,rfl⟩,.inl ⟨_,rfl,Ys.out⟩⟩
end Go.Proofs.YthmfgidbcghnfaaGreatDoor
namespace Go.Proofs.YthmfgidbcghnfaaGreatDoor
open Go.RowKit
theorem dR:(Tryz.prog.info? 99).map (·.size)=some 3:=by kernel_rfl
theorem aF2 (k s:Int):rC k s=sS k s:=by
 unfold rC sS;by_cases h0:s=0
 ·subst h0;simp
 by_cases h1:s=1
 ·subst h1;simp
 by_cases h2:s=2
 ·subst h2;simp
 simp[h0,h1,h2]
theorem aPp (k s:Int):sS k s=0\/sS k s=1\/sS k s=3:=by
 unfold sS
 repeat' split
 all_goals omega
theorem aPj {a:Tr} {s i:Int} {u:ByteArray} (h:sS a.k s=0):aDZ a s i u=(zB a i u,if(atT a i u).isSome then 0 else 5):=by
 unfold aDZ zB;rw[if_neg uDu];cases atT a i u<;>rfl
theorem aME {a:Tr} {s i:Int} {u:ByteArray} (h:sS a.k s≠0):aDZ a s i u=(jH,sS a.k s):=by
 unfold aDZ;rw[if_pos h]
theorem aSP {S:Nat->Prop} (w:World) (a:Tr) (x:Cel) (ha:fQ a) (hv:VAt S w a x) (s i:Int) (u:ByteArray) (hu:u.size<=9223372036854775800):
  Calls Tryz.prog 198 #[.agg (aL x),.agg #[.int .i64 s,.int .i64 i,.string u]] w fun r w'=>∃y,r=.returned (.tuple #[.agg (aL y),.int .i64 (aDZ a s i u).2])/\VAt S w' (aDZ a s i u).1 y/\Below w.heap.size w w':=by
 obtain⟨w1,ag⟩:∃w1,((w.alloc (.cells (aL x) 37)).alloc (.cells #[.int .i64 s,.int .i64 i,.string u] 99)).alloc (.cells #[.int .i64 0,.int .i64 0,.string ⟨#[]⟩,.pointer none] 37)=w1:=⟨_,rfl⟩
 obtain⟨af,ai,cq,aw,jg⟩:=dF ag;have HX1:=iH ai;have tq:=iH cq;have bl:=iH aw;have HB1:=iH af;have HS1:=iH jg;have tj:=iH (aGF w1 x s i u);rw[hv.k,aF2]at tj;by_cases hf:sS a.k s=0
 ·have h4:4<=a.k:=by rcases oJ hf with⟨_,h⟩|⟨_,h⟩|⟨_,h⟩<;>omega
  obtain⟨b,l,hp,_⟩:=hv.parts h4;have Gu:=iH (fun W (hb:Below w.heap.size w W)=>aNs W a x b ha (hv.old.later hb) hp s i u hf hu);have Ez:Hid ((aL x)[3]? =some (.pointer (some ⟨b,0,none⟩))):=by show _=_;rw[<-hp];rfl
  rw[aPj hf];rw[hf]at tj;cases e:atT a i u with
  |none=>
   have hn:zB a i u=jH:=by unfold zB;rw[e]
   rw[e,hn]at Gu;rw[hn];clear ai cq aw jg af hf h4 hp hv ha e hu hn;go_enter Tryz.func198,Tryz.ntmps198;go_upto_region 1 with fail
   clear ag;go_upto_region 4 with(first
    |(refine aW rfl 37 _ rfl w.heap.size rfl 37 _ _ _ HX1.out Tryz.underlying37 rfl aF ?_)
    |(refine aW rfl 99 _ rfl (w.heap.size+1) rfl 99 _ _ _ tq.out Tryz.underlying99 rfl dR ?_)
    |(go_at_call 244;refine tj.out.mono ?_;rintro r w2 ⟨rfl,ah⟩;have aq:=iH (tW HB1.out ah);have HX2:=iH (kW ah HX1.out);have Ho:=iH (kW ah tq.out);have bo:=iH (kW ah bl.out);clear ah))
   have cp:w2.cell? ⟨w.heap.size,3,none⟩=some (.pointer (some ⟨b,0,none⟩)):=aG HX2.out Ez.out;clear tj HX1 tq bl;go_wp2_with (first
    |(refine aW rfl 99 _ rfl (w.heap.size+1) rfl 99 _ _ _ Ho.out Tryz.underlying99 rfl dR ?_)
    |(go_at_call 245;refine(Gu.out _ aq.out).mono ?_;rintro r w3 ⟨y,rfl,hy,au⟩;have av:=iH (tW aq.out au);have dp:=iH (kW au bo.out);have na:Hid (w.heap.size+3<=w3.heap.size):=(by have h1:=(gZ dp.out);show _<=_;omega);clear au hy)
    |(refine aV rfl 37 _ _ rfl w3.heap.size (aL y) rfl rfl 37 _ (aC _ _) aF rfl (cE y) ?_;intro w4 h4 k4;have bg:=iH ((av.out.trans ((Below.newly' w3 _).mono av.out.size)).trans (k4.below av.out.size));have gg:=iH (k4.other (((Below.newly' w3 _).block _ (gZ dp.out)).trans dp.out) (by have:=na.out;omega));clear h4 k4)
    |(refine aV rfl 37 _ _ rfl (w.heap.size+2) #[.int .i64 0,.int .i64 0,.string ⟨#[]⟩,.pointer none] rfl rfl 37 _ gg.out aF rfl uAx ?_;intro w5 h5 k5))
   exact aN (aR rfl _ _ (w.heap.size+2) 37 _ (0,0) _ rfl h5 Tryz.underlying37 rfl aF) rfl ⟨gO,rfl,lT _ _,bg.out.trans (k5.below hO)⟩
  |some j=>
   rw[e]at Gu;clear ai cq aw jg af hf h4 hp hv ha e hu;go_enter Tryz.func198,Tryz.ntmps198;go_upto_region 1 with fail
   clear ag;go_upto_region 4 with(first
    |(refine aW rfl 37 _ rfl w.heap.size rfl 37 _ _ _ HX1.out Tryz.underlying37 rfl aF ?_)
    |(refine aW rfl 99 _ rfl (w.heap.size+1) rfl 99 _ _ _ tq.out Tryz.underlying99 rfl dR ?_)
    |(go_at_call 244;refine tj.out.mono ?_;rintro r w2 ⟨rfl,ah⟩;have aq:=iH (tW HB1.out ah);have HX2:=iH (kW ah HX1.out);have Ho:=iH (kW ah tq.out);have bo:=iH (kW ah bl.out);clear ah))
   have cp:w2.cell? ⟨w.heap.size,3,none⟩=some (.pointer (some ⟨b,0,none⟩)):=aG HX2.out Ez.out;clear tj HX1 tq bl;go_wp2_with (first
    |(refine aW rfl 99 _ rfl (w.heap.size+1) rfl 99 _ _ _ Ho.out Tryz.underlying99 rfl dR ?_)
    |(go_at_call 245;refine(Gu.out _ aq.out).mono ?_;rintro r w3 ⟨y,rfl,hy,au⟩;have Bt:=iH hy;have av:=iH (tW aq.out au);have dp:=iH (kW au bo.out);have na:Hid (w.heap.size+3<=w3.heap.size):=(by have h1:=(gZ dp.out);show _<=_;omega);clear au hy)
    |(refine aV rfl 37 _ _ rfl w3.heap.size (aL y) rfl rfl 37 _ (aC _ _) aF rfl (cE y) ?_;intro w4 h4 k4;have bg:=iH ((av.out.trans ((Below.newly' w3 _).mono av.out.size)).trans (k4.below av.out.size));have U9:=iH h4;have Mq:=iH (((Below.newly' w3 _).mono av.out.size).trans (k4.below av.out.size));have gg:=iH (k4.other (((Below.newly' w3 _).block _ (gZ dp.out)).trans dp.out) (by have:=na.out;omega));clear h4 k4)
    |(refine aW rfl 37 _ rfl w3.heap.size rfl 37 _ _ _ U9.out Tryz.underlying37 rfl aF ?_)
    |(refine aV rfl 37 _ _ rfl (w.heap.size+2) (aL y) rfl rfl 37 _ gg.out aF rfl (cE y) ?_;intro w5 h5 k5))
   have hl:=(gZ gg.out)
   exact aN (aR rfl _ _ (w.heap.size+2) 37 _ (0,0) _ rfl h5 Tryz.underlying37 rfl aF) rfl ⟨y,rfl,(Bt.out.kq (Kq.low (Mq.out.trans (k5.below hO)) fun _ h=>h.2)).weak fun _ h=>h.1,bg.out.trans (k5.below hO)⟩
 ·rw[aME hf]
  rcases aPp a.k s with e|e|e
  ·exact absurd e hf
  all_goals
   rw[e]at tj ⊢;clear ai cq aw jg af hf hv ha e hu;go_enter Tryz.func198,Tryz.ntmps198;go_upto_region 1 with fail
   clear ag;go_wp2_with (first
    |(refine aW rfl 37 _ rfl w.heap.size rfl 37 _ _ _ HX1.out Tryz.underlying37 rfl aF ?_)
    |(refine aW rfl 99 _ rfl (w.heap.size+1) rfl 99 _ _ _ tq.out Tryz.underlying99 rfl dR ?_)
    |(go_at_call 244;refine tj.out.mono ?_;rintro r w2 ⟨rfl,ah⟩;have aq:=iH (tW HB1.out ah);have HX2:=iH (kW ah HX1.out);have Ho:=iH (kW ah tq.out);have bo:=iH (kW ah bl.out);clear ah)
    |(refine aV rfl 37 _ _ rfl (w.heap.size+2) #[.int .i64 0,.int .i64 0,.string ⟨#[]⟩,.pointer none] rfl rfl 37 _ bo.out aF rfl uAx ?_;intro w5 h5 k5))
   exact aN (aR rfl _ _ (w.heap.size+2) 37 _ (0,0) _ rfl h5 Tryz.underlying37 rfl aF) rfl ⟨gO,rfl,lT _ _,aq.out.trans (k5.below hO)⟩
end Go.Proofs.YthmfgidbcghnfaaGreatDoor
namespace Go.Proofs.YthmfgidbcghnfaaGreatDoor
open Go.RowKit Go.Shelf
attribute [local go_sem] fS
theorem bW.shape {B:Nat} {e:TypeId} {s:Nat} {v:Value} {cs:List (Array Value)} {w:World} (h:bW B e s v cs w):∃a c,v=.slice a cs.length c:=by
 exact Aj0
theorem bW.ikw {Ts:TypeId->Prop} {Y B:Nat} {e:TypeId} {s:Nat} {v:Value} {cs:List (Array Value)} {w w':World} (h:bW B e s v cs w) (k:IKW Ts Y w w') (he:Ts e):bW B e s v cs w':=by
 obtain⟨⟨h1,h2⟩,h3,h4⟩:=h;refine⟨⟨h1,h2.imp_right ?_⟩,aI h3 k.1,h4⟩;exact Ak3
theorem bW.kw {Ts:TypeId->Prop} {B n₀ Y:Nat} {e:TypeId} {s:Nat} {v:Value} {cs:List (Array Value)} {w w':World} (h:bW B e s v cs w) (hg:w.grownBy w' v.ownBlock) (hn:n₀<=B) (hw:n₀<=w.heap.size) (he:Ts e):KW Ts n₀ Y w w':=by
 rcases h.own with h1|⟨g,aj,fz,h1,h2,h3⟩
 ·rw[h1]at hg
  exact KW.below ⟨hg.os,hg.tape,hg.output,hg.size,fun k hk=>hg.block k hk uAy⟩ hw
 ·exact Am4
theorem bW.ne_box {B X:Nat} {e T:TypeId} {s:Nat} {v u:Value} {cs:List (Array Value)} {w:World} (h:bW B e s v cs w) (hb:Boxed w X T u) (hT:e≠T):v.ownBlock=none\/v.ownBlock≠some X:=by
 exact Ad7
end Go.Proofs.YthmfgidbcghnfaaGreatDoor
