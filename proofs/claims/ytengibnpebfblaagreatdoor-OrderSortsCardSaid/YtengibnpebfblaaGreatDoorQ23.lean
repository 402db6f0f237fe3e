import Derived.Test.YtengibnpebfblaaGreatDoorQ0
import Derived.Test.YtengibnpebfblaaGreatDoorQ20
import Derived.Test.YtengibnpebfblaaGreatDoorQ22
set_option maxRecDepth 1000000
set_option maxHeartbeats 8000000
set_option linter.unusedSimpArgs false
namespace Go.Proofs.YtengibnpebfblaaGreatDoor
open Go.RowKit Go.Shelf Go.Lib Go.Sort
theorem aNZ (hs:ByteArray->Nat) (b1 b2:Nat) (e1 e2:Ent) (w:World) {fr1 fr2:Nat×Nat} (h1:w.heap[b1]? =some (.cells (aEi hs e1) 163 fr1)) (h2:w.heap[b2]? =some (.cells (aEi hs e2) 163 fr2)):
  Calls Tryz.prog 125 #[pv (some b1),pv (some b2)] w fun r w'=>r=.returned (.int .i64 (dM (kb e1.1) (kb e2.1)))/\∃q,w'=w.drewN q:=by
 have c1:w.cell? ⟨b1,0,none⟩=some (.string e1.1):=aK h1 rfl;have c2:w.cell? ⟨b2,0,none⟩=some (.string e2.1):=aK h2 rfl;have HO:=iH (fun w=>yM e1.1 e2.1 w);unfold pv;clear h1 h2;go_enter Tryz.func125,Tryz.ntmps125;go_upto_region 1 with fail
 go_quiet (first|(go_at_call 40;exact lW ((HO.out _).mono fun _ _ h=>⟨h.1,h.2.symm⟩)))
 go_wp2_with fail
 go_ret;exact⟨rfl,_,rfl⟩
def cf2 {T:Type} (f:T->Ent) (x y:T):Int:=dM (kb (f x).1) (kb (f y).1)
theorem aEq {T:Type} (f:T->Ent) (x y:T):ltOf (cf2 f) x y=decide (kb (f x).1<kb (f y).1):=by
 have h:=iD (kb (f x).1) (kb (f y).1);have hr:=iU (kb (f x).1) (kb (f y).1);unfold ltOf cf2;rw[aJD,<-h];omega
theorem aN9 {T:Type} (f:T->Ent):SWO (ltOf (cf2 f)) where
 irrefl x:=by rw[aEq,jS];exact gB _
 trans x y z h1 h2:=by
  rw[aEq,iJ]at h1 h2 ⊢;exact iG h1 h2
 ntrans x y z h1 h2:=by
  rw[aEq,jS]at h1 h2 ⊢;intro h3;rcases tri (f x).1 (f y).1 with h|h|h
  ·exact h1 h
  ·rw[h]at h3;exact h2 h3
  ·exact h2 (iG h h3)
theorem aMo {α:Type} [Inhabited α] (enc:α->Value) (w:World) (blk off m:Nat) (dk:Array α) (os:Array Obj) {cur:Array Value} {T:TypeId} {fr:Nat×Nat} (h:w.heap[blk]? =some (.cells cur T fr)):∃cur',(sortWorld enc w blk off m dk os).heap[blk]? =some (.cells cur' T fr):=by
 have hlt:=(gZ h)
 unfold sortWorld grow putRow mapBlock;simp only;rw[Array.getElem?_append_left (by simp;exact hlt),Array.getElem?_modify,if_pos rfl];rw[show(Sort.ahead w m).heap=w.heap from rfl,h];exact⟨_,rfl⟩
def aHk (w:World) (v:Value):Prop:=∀(g n c:Nat),v=.slice (some ⟨g,0,none⟩) n c->∃cur,w.heap[g]? =some (.cells cur 161 (0,0))
theorem Eps.typed {B:Nat} {v:Value} {ps:List Nat} {w:World} (h:Eps B v ps w):aHk w v:=by
 obtain⟨⟨_,h2⟩,_⟩:=h;rcases h2 with⟨rfl,_⟩|⟨g,cap,cur,rfl,_,hg,_⟩
 ·intro g n c e
  cases e
 ·intro g' n c e
  simp only[dR,cC,nB]at e;obtain⟨⟨rfl,_⟩,_⟩:=e;exact⟨cur,hg⟩
theorem aMV (hs:ByteArray->Nat) (S:Nat->Prop) (B:Nat) (w:World) (v:Value) (qs:List (Nat×Ent)) (he:Eps B v (qs.map (·.1)) w) (hq:∀q∈qs,jI hs S w q.1 q.2) (hn:qs.length<=100000):
  Calls Tryz.prog 124 #[v,.func (.func 125) #[] #[]] w fun r w'=>r=.returned (.tuple #[])/\∃qs':List (Nat×Ent),qs'.Perm qs/\(qs'.map (·.2)).Pairwise (fun a b=>¬kb b.1<kb a.1)/\bZ (fun g=>B<=g) w' 1 v (en enE (qs'.map (·.1))) qs'.length/\aHk w' v/\Ap B w w':=by
 rcases gP qs.length with h0|h0
 ·obtain rfl:qs=[]:=aT h0
  have hc:=oT he.1;have hty:=he.typed;obtain⟨a,c,rfl⟩:=he.len;have h:=AnyF.slices_SortFunc_none {Tryz.sortL with} a c (.func (.func 125) #[] #[]) w;refine Calls.mono (P:=Tryz.prog) (f:=124) h ?_;rintro r w' ⟨rfl,rfl⟩;exact⟨rfl,[],List.Perm.refl _,List.Pairwise.nil,hc,hty,Ap.refl _ _⟩
 ·have hc0:=oT he.1
  obtain⟨g,cp,cur,rfl,hB,hg,hcp,hcs⟩:∃g c cur,v=.slice (some ⟨g,0,none⟩) qs.length c/\B<=g/\w.heap[g]? =some (.cells cur 161 (0,0))/\qs.length<=c/\∀(j:Nat) (u:Value),(en enE (qs.map (·.1)))[j]? =some u->cur[j]? =some u:=by
   obtain⟨_,⟨g,c,cur,rfl,h1,h2,h3,h4⟩⟩:=(wQ he.1 (by rw[aH];exact h0)).2.resolve_left uPz;rw[aH]at h1;exact⟨g,c,cur,by rw[aH],h2,h3,h1,h4⟩
  have hin:Inhabited {q:Nat×Ent//q∈qs}:=⟨⟨qs[0],aO h0⟩⟩
  obtain⟨d,hd⟩:∃d:Array {q:Nat×Ent//q∈qs},d=qs.attach.toArray:=⟨_,rfl⟩
  have hds:d.size=qs.length:=by rw[hd];simp
  have hdl:d.toList.map Subtype.val=qs:=by rw[hd,vE];exact List.attach_map_subtype_val qs
  have hda:∀j,j<d.size->qs[j]? =some (d[j]!).1:=fun j hj=>by
   exact Ae4
  have hHo:Holds (fun q:{q:Nat×Ent//q∈qs}=>pv (some q.1.1)) w g 0 d:=fun j hj=>by
   have hq:=hcs j (pv (some (d[j]!).1.1)) (by rw[zD,hda j hj];rfl);refine⟨by rw[dL];exact aK hg hq,?_⟩;simp[World.frozen?,hg]
  have hne:∀q∈qs,q.1≠g:=fun q hq' e=>by
   obtain⟨_,fr,hx⟩:=hq q hq';exact Ai3
  have hcmp:CmpReads Tryz.prog 125 #[] (fun q:{q:Nat×Ent//q∈qs}=>pv (some q.1.1)) (cf2 fun q=>q.1.2) g 0 d.size w:=fun m os dk _ x y=>by
   obtain⟨_,fr,hx⟩:=hq x.1 x.2;obtain⟨_,fr',hy⟩:=hq y.1 y.2;have hx2:=(uJ (fun q:{q:Nat×Ent//q∈qs}=>pv (some q.1.1)) w g 0 m dk os (gZ hx) (hne x.1 x.2)).trans hx;have hy2:=(uJ (fun q:{q:Nat×Ent//q∈qs}=>pv (some q.1.1)) w g 0 m dk os (gZ hy) (hne y.1 y.2)).trans hy;exact aNZ hs x.1.1 y.1.1 x.1.2 y.1.2 _ hx2 hy2
  have eg:∀args w,(callFunc 125 args).run Tryz.prog w=.ok (.enter 125 args) w:=lX Tryz.func125 hO rfl
  have hcon:=Any.slices_SortFunc Tryz.sortL (fun q:{q:Nat×Ent//q∈qs}=>pv (some q.1.1)) (fun _=>rfl) (cf2 fun q=>q.1.2) (aN9 _) 125 #[] g 0 cp d w eg hcmp.lays hHo (gZ hg) (by rw[hds];omega);change Calls Tryz.prog 124 _ _ _ at hcon
  rw[hds]at hcon;refine hcon.mono ?_;rintro r w' ⟨rfl,d',n,os,⟨hsz,_,hperm⟩,hsort,rfl⟩;have hd's:d'.size=qs.length:=by rw[hsz,hds]
  have hp':d'.toList.Perm d.toList:=by
   have e1:d'.extract 0 qs.length=d':=by rw[<-hd's];simp
   have e2:d.extract 0 qs.length=d:=by rw[<-hds];simp
   rw[e1,e2]at hperm;exact hperm
  have hHo':=holds_sortWorld (fun q:{q:Nat×Ent//q∈qs}=>pv (some q.1.1)) w g 0 n d d' os (gZ hg) hHo (by rw[hsz]);have hl':(d'.toList.map Subtype.val).length=qs.length:=by rw[aH,bB,hd's]
  refine⟨rfl,d'.toList.map Subtype.val,?_,?_,?_,?_,?_⟩
  ·have:=hp'.map Subtype.val
   rwa[hdl]at this
  ·rw[kC,iK,eK]
   intro i j hi hj hij;rw[bB,hd's]at hi hj;have h:=hsort i j (aQ _) hij hj;rw[aEq,jS,getElem!_pos d' j uAu,getElem!_pos d' i uAu]at h;simpa using h
  ·rw[hl']
   refine⟨_,cp,rfl,hcp,by rw[oA aAW,aH,hl'],.inr ⟨g,0,rfl,hB,?_,fun j u hu=> ?_⟩⟩
   ·exact cQ (gZ hg) (by simp[sortWorld,grow,putRow,mapBlock])
   ·rw[zD]at hu
    obtain⟨q,hq1,rfl⟩:=gD.1 hu;have hj:=(List.getElem?_eq_some_iff.1 hq1).1;rw[hl']at hj;have h:=(hHo' j uAu).1;rw[List.getElem?_map,Array.getElem?_toList,Array.getElem?_eq_getElem uAu]at hq1;rw[getElem!_pos d' j uAu]at h;obtain rfl:=aN hq1;exact h
  ·intro g' n' c' e
   simp only[dR,cC,nB]at e;obtain⟨⟨rfl,_⟩,_⟩:=e;exact aMo _ w _ 0 n d' os hg
  ·exact⟨aBb _ w g 0 n d' os he.2 hB,fun k o hk ho=>(uJ _ w g 0 n d' os (gZ hk) (fun e=>by subst e;rw[hg]at hk;cases hk;exact ho _ _ rfl)).trans hk⟩
theorem aBR:(Tryz.prog.info? 103).map (·.size)=some 12:=by kernel_rfl
theorem aAl:(Tryz.prog.info? 32).map (·.size)=some 3:=by kernel_rfl
theorem aJ0 {a:Tr} (h:a.xs=[]):fU a=1:=by rw[pO,h];rfl
theorem aJs {a:Tr} (h:a.xs=[]):iX a=1:=by rw[vU,h];rfl
theorem dW.nod {a:Tr} (h:dW a):fU a<=16384:=h.1.2.2
theorem dW.dep {a:Tr} (h:dW a):iX a<=64:=h.1.2.1
theorem dW.nodL {a:Tr} (h:dW a):Go.Proofs.YtengibnpebfblaaGreatDoor.eO a.xs<=16383:=by have:=h.nod;rw[pO]at this;omega
theorem dW.depL {a:Tr} (h:dW a):Go.Proofs.YtengibnpebfblaaGreatDoor.jY a.xs<=63:=by have:=h.dep;rw[vU]at this;omega
theorem oE (w:World) (x:Cel):Calls Tryz.prog 44 #[.agg (aX x)] w fun r w'=>r=.returned (.int .i64 x.k)/\Below w.heap.size w w':=by
 have HB:=iH (Below.newly' w (.cells (aX x) 35));go_enter Tryz.func44,Tryz.ntmps44;go_wp2
 go_ret;exact⟨rfl,HB.out⟩
theorem aJR {S:Nat->Prop} (w:World) (a:Tr) (x:Cel) (ha:dW a) (hv:VAt S w a x):Calls Tryz.prog 86 #[.agg (aX x)] w fun r w'=>r=.returned (.int .i64 ((iX a:Nat):Int))/\Below w.heap.size w w':=by
 obtain⟨w1,hw1⟩:∃w1,w.alloc (.cells (aX x) 35)=w1:=⟨_,rfl⟩
 obtain⟨hb1,hx1,hs1⟩:=eA hw1;have cp:w1.cell? ⟨w.heap.size,3,none⟩=some (.pointer x.p):=aK hx1 rfl;have HB1:=iH hb1;by_cases h3:a.k<=3
 ·have hp:=hv.leaf h3
  rw[aJs (ha.leaf h3).2];rw[hp]at cp;clear hx1 hb1 hs1 hv ha hp;go_enter Tryz.func86,Tryz.ntmps86;exact Ag9
 ·obtain⟨b,l,hp,_,_,rc,mc,d,fr,s,n,h1,_,h3',h4,h5⟩:=(hv.later hb1).parts uAu
  rw[hp]at cp;have HD:=iH (aFR h3'.size h4.size h1);have HDE:=iH ha.depL;rw[vU];rw[oI]at h5;obtain⟨da,dc,rfl,_⟩:=h5.shape;obtain⟨k,hk⟩:∃k,k=jY a.xs:=⟨_,rfl⟩
  rw[<-hk]at HDE HD ⊢;have HT:=iH (aEW w1 da k dc (eO a.xs:Int) (by have:=HDE.out;omega));clear hx1 hb1 hs1 hv ha hp h1 h3' h4 h5 hk;go_enter Tryz.func86,Tryz.ntmps86;go_upto_region 1 with fail
  clear hw1;go_wp2_with (first
   |(refine dA rfl 101 _ rfl b 10 rfl [.slice da k dc,.int .i64 (eO a.xs:Int)] _ HD.out Tryz.underlying101 rfl gR ?_)
   |(go_at_call 85;refine HT.out.mono ?_;rintro r w2 ⟨rfl,hb2⟩;have HB2:=iH hb2;clear hb2))
  go_ret;exact⟨by first|rfl|simp,tW HB1.out HB2.out⟩
theorem aJQ {S:Nat->Prop} (w:World) (a:Tr) (x:Cel) (ha:dW a) (hv:VAt S w a x):Calls Tryz.prog 60 #[.agg (aX x)] w fun r w'=>r=.returned (.int .i64 ((fU a:Nat):Int))/\Below w.heap.size w w':=by
 obtain⟨w1,hw1⟩:∃w1,w.alloc (.cells (aX x) 35)=w1:=⟨_,rfl⟩
 obtain⟨hb1,hx1,hs1⟩:=eA hw1;have cp:w1.cell? ⟨w.heap.size,3,none⟩=some (.pointer x.p):=aK hx1 rfl;have HB1:=iH hb1;by_cases h3:a.k<=3
 ·have hp:=hv.leaf h3
  rw[aJ0 (ha.leaf h3).2];rw[hp]at cp;clear hx1 hb1 hs1 hv ha hp;go_enter Tryz.func60,Tryz.ntmps60;exact Ag9
 ·obtain⟨b,l,hp,_,_,rc,mc,d,fr,s,n,h1,_,h3',h4,h5⟩:=(hv.later hb1).parts uAu
  rw[hp]at cp;have cn:w1.cell? ⟨b,11,none⟩=some (.int .i64 (eO a.xs:Int)):=aFR h3'.size h4.size h1 1 _ rfl;have hnn:(eO a.xs:Int)<=100000:=by have:=ha.nodL;omega
  have hn0:(0:Int)<=(eO a.xs:Int):=by omega
  obtain⟨k,hk⟩:∃k:Nat,k=eO a.xs:=⟨_,rfl⟩
  rw[pO];rw[<-hk]at cn hnn hn0 ⊢;clear hx1 hb1 hs1 hv ha hp h1 h3' h4 h5 hk;go_enter Tryz.func60,Tryz.ntmps60;go_upto_region 1 with fail
  clear hw1;go_wp2
  go_ret;exact⟨by first|rfl|(simp;omega),HB1.out⟩
theorem aGv {S:Nat->Prop} (w:World) (a:Tr) (x:Cel) (ha:dW a) (hv:VAt S w a x):Calls Tryz.prog 50 #[.agg (aX x)] w fun r w'=>∃d,r=.returned (.agg #[d,.int .i64 ((fU a:Nat):Int)])/\bZ (fun g=>w.heap.size<=g) w' 1 d (iv (tal [a])) (tal [a]).length/\Below w.heap.size w w':=by
 obtain⟨i,hi,hz,h1,h2⟩:=dV aFL;obtain⟨w1,hw1⟩:∃w1,(w.alloc (.cells (aX x) 35)).alloc (.cells #[.slice none 0 0,.int .i64 0] 101)=w1:=⟨_,rfl⟩
 obtain⟨hb1,hx1,hy1,hs1⟩:=eR hw1;have HX1:=iH hx1;have HY1:=iH hy1;have HB1:=iH hb1;have HS1:=iH hs1;have HI:=iH (And.intro hi (And.intro hz (And.intro h1 h2)));have HD:=iH (aJR w1 a x ha (hv.later hb1));have HN:=iH (fun W (hb:Below w.heap.size w W)=>aJQ W a x ha (hv.later hb));obtain⟨k,hk⟩:∃k,k=iX a:=⟨_,rfl⟩
 have HK:Hid (k=iX a/\1<=k/\k<=64):=⟨hk,by rw[hk];exact aI0 a,by rw[hk];exact ha.dep⟩
 rw[<-hk]at HD;have hk64:(k:Int)<=64:=by have:=HK.out;omega
 have hk1:(1:Int)<=(k:Int):=by have:=HK.out;omega
 obtain⟨j,hj⟩:∃j:Nat,k=j+1:=⟨k-1,by have:=HK.out;omega⟩
 have hj1:(k:Int)-1=(j:Int):=by omega
 have hjk:(j:Int)<(k:Int):=by omega
 have hjk':j<k:=by omega
 have HJ:=iH hj;obtain⟨q,hq⟩:∃q,q=fU a:=⟨_,rfl⟩
 rw[<-hq]at HN ⊢;clear hx1 hy1 hb1 hs1 hi hz h1 h2 hk hv ha hj hq;go_enter Tryz.func50,Tryz.ntmps50;go_upto_region 1 with fail
 clear hw1;go_upto_region 2 with(first
  |(refine bR rfl 35 _ rfl w.heap.size rfl 35 _ _ _ HX1.out Tryz.underlying35 rfl aR ?_)
  |(go_at_call 86;refine HD.out.mono ?_;rintro r w2 ⟨rfl,hb2⟩;have HB2:=iH hb2;clear hb2)
  |(refine mH _ rfl _ _ 99 rfl 3 i (.int .i64 0) 1 Tryz.underlying99 HI.out.1 HI.out.2.1 HI.out.2.2.1 .i64 .i64 k rfl rfl uLy (by have:=HK.out;omega) ?_))
 obtain⟨w4,hw4⟩:∃w4,w4=w2.alloc (.cells (madeCells #[.int .i64 0] k) 3):=⟨_,rfl⟩
 have hb4:Below w2.heap.size w2 w4:=by rw[hw4];exact Below.newly' _ _
 have HG4:Hid (w4.heap[w2.heap.size]? =some (.cells (madeCells #[.int .i64 0] k) 3 (0,0))):=by show _=_;rw[hw4];exact aF _ _
 have HB4:Hid (Below w1.heap.size w1 w4):=tW HB2.out hb4;rw[<-hw4];obtain⟨G,hG⟩:∃G,G=w2.heap.size:=⟨_,rfl⟩
 have HGE:Hid (w1.heap.size<=G):=by show _<=_;rw[hG];exact HB2.out.size
 rw[<-hG]at HG4 ⊢;have cg:w4.cell? ⟨G,j,none⟩=some (.int .i64 0):=aK HG4.out (by rw[aAU _ _ _ uAu];simp[Value.cells,Nat.mod_one]);clear hw4 hb4 hG HD HB2;go_wp2_with (first
  |(refine qZ rfl 3 _ _ rfl G j (.int .i64 1) rfl rfl rfl 3 _ HG4.out aBO (by rw[nS];have:=HJ.out;omega) ?_;intro w5 h5 k5;have HG5:=iH h5;have HB5:=iH (HB4.out.trans (k5.below HGE.out));clear h5 k5)
  |(refine bR rfl 35 _ rfl w.heap.size rfl 35 _ _ _ ((HB5.out.block _ uBx).trans HX1.out) Tryz.underlying35 rfl aR ?_)
  |(go_at_call 60;refine(HN.out _ (tW HB1.out HB5.out)).mono ?_;rintro r w6 ⟨rfl,hb6⟩;have HB6:=iH (tW HB5.out hb6);have HG6:=iH ((hb6.block G (gZ HG5.out)).trans HG5.out);clear hb6)
  |(refine bV rfl 101 _ _ rfl (w.heap.size+1) #[.slice (some ⟨G,0,none⟩) k k,.int .i64 (q:Int)] rfl rfl 101 _ ((HB6.out.block _ uBx).trans HY1.out) gR rfl uAy ?_;intro w7 h7 k7))
 have hge:=HGE.out;have hs1:=HS1.out;refine bF (cE rfl _ _ (w.heap.size+1) 101 _ (0,0) _ rfl h7 Tryz.underlying101 rfl gR) rfl ⟨_,rfl,?_,(tW HB1.out HB6.out).trans (k7.below uAu)⟩;have ht:tal [a]=List.replicate j 0++[1]:=by rw[aMn,<-HK.out.1,HJ.out];rfl
 rw[ht];have hl:(List.replicate j (0:Int)++[1]).length=k:=by rw[HJ.out];simp
 refine aDn (k7.other HG6.out uAu) uAu hl.symm (aE _) fun i hi=> ?_
 rw[hl]at hi;rw[Array.getElem?_setIfInBounds];by_cases e:j=i
 ·subst e
  rw[if_pos rfl,if_pos (by rw[nS];have:=HJ.out;simp;omega)];simp
 ·rw[if_neg e,aAU _ _ _ uAu]
  have:i<j:=by have:=HJ.out;omega
  simp[Value.cells,Nat.mod_one,List.getElem?_append_left,this]
def qO (k s:Int):Int:=if s=0\/s=1\/s=2 then if k=s+4 then 0 else 3 else 1
theorem aJO (w:World) (x:Cel) (s i:Int) (u:ByteArray):Calls Tryz.prog 63 #[.agg (aX x),.agg #[.int .i64 s,.int .i64 i,.string u]] w fun r w'=>r=.returned (.int .i64 (qO x.k s))/\Below w.heap.size w w':=by
 obtain⟨w1,hw1⟩:∃w1,(w.alloc (.cells (aX x) 35)).alloc (.cells #[.int .i64 s,.int .i64 i,.string u] 67)=w1:=⟨_,rfl⟩
 obtain⟨hb1,hx1,hy1,hs1⟩:=eR hw1;have HX1:=iH hx1;have HB1:=iH hb1;have HK:=iH (oE w1 x);have cs:w1.cell? ⟨w.heap.size+1,0,none⟩=some (.int .i64 s):=aK hy1 rfl;clear hx1 hy1 hb1 hs1;by_cases h0:s=0
 ·subst h0
  by_cases hk:x.k=4<;>(
   have e:qO x.k 0=if x.k=4 then 0 else 3:=by simp[qO]
   rw[e];first|rw[if_pos hk]|rw[if_neg hk]
   clear e;go_enter Tryz.func63,Tryz.ntmps63;go_upto_region 1 with fail
   clear hw1;go_wp2_with (first
    |(refine bR rfl 35 _ rfl w.heap.size rfl 35 _ _ _ HX1.out Tryz.underlying35 rfl aR ?_)
    |(go_at_call 44;refine HK.out.mono ?_;rintro r w2 ⟨rfl,hb2⟩;have HB2:=iH hb2;clear hb2))
   go_ret;exact⟨rfl,tW HB1.out HB2.out⟩)
 by_cases h1:s=1
 ·subst h1
  by_cases hk:x.k=5<;>(
   have e:qO x.k 1=if x.k=5 then 0 else 3:=by simp[qO]
   rw[e];first|rw[if_pos hk]|rw[if_neg hk]
   clear e;go_enter Tryz.func63,Tryz.ntmps63;go_upto_region 1 with fail
   clear hw1;go_wp2_with (first
    |(refine bR rfl 35 _ rfl w.heap.size rfl 35 _ _ _ HX1.out Tryz.underlying35 rfl aR ?_)
    |(go_at_call 44;refine HK.out.mono ?_;rintro r w2 ⟨rfl,hb2⟩;have HB2:=iH hb2;clear hb2))
   go_ret;exact⟨rfl,tW HB1.out HB2.out⟩)
 by_cases h2:s=2
 ·subst h2
  by_cases hk:x.k=6<;>(
   have e:qO x.k 2=if x.k=6 then 0 else 3:=by simp[qO]
   rw[e];first|rw[if_pos hk]|rw[if_neg hk]
   clear e;go_enter Tryz.func63,Tryz.ntmps63;go_upto_region 1 with fail
   clear hw1;go_wp2_with (first
    |(refine bR rfl 35 _ rfl w.heap.size rfl 35 _ _ _ HX1.out Tryz.underlying35 rfl aR ?_)
    |(go_at_call 44;refine HK.out.mono ?_;rintro r w2 ⟨rfl,hb2⟩;have HB2:=iH hb2;clear hb2))
   go_ret;exact⟨rfl,tW HB1.out HB2.out⟩)
 ·have e:qO x.k s=1:=by simp[qO,h0,h1,h2]
  rw[e];clear e;go_enter Tryz.func63,Tryz.ntmps63;go_upto_region 1 with fail
  clear hw1;go_wp2_with fail
  go_ret;exact⟨rfl,HB1.out⟩
theorem aJ4 {a:Tr} {l:List Cel} (ha:dW a) (hl:l.length=a.xs.length) (h4:4<=a.k):(wT a.k l).length+(pC a.k a.ks a.xs l).length=a.xs.length/\(wT a.k l).length<=16383/\(pC a.k a.ks a.xs l).length<=16383:=by
 have hn:=ha.len;have hk:=ha.kind;by_cases h:a.k=4
 ·have e:wR a.k a.ks a.xs=[]:=by rw[wR,if_neg uAu,if_neg uAu]
  rw[wT,if_pos h,pC,e];simp;omega
 ·have hm:=(ha.mkeys uAu).1
  rw[wT,if_neg h,pC,dN,hm,hl];simp;omega
theorem tal_le {a:Tr} (h:dW a):(tal a.xs).length<=63:=by rw[oI];exact h.depL
theorem tal_rng {a:Tr} (h:dW a):aNk (tal a.xs):=aDT (aG h.len uAu)
theorem VAt.two {S:Nat->Prop} {w:World} {a:Tr} {x:Cel} (h:VAt S w a x) (ha:dW a) (h4:4<=a.k):x.n=0/\x.t=⟨#[]⟩:=by
 have:=ha.inner h4;rw[h.n,h.t,this.1,this.2];exact⟨rfl,rfl⟩
theorem aBN {k:Int} {l:List Cel} (h:k=4):wT k l=l:=if_pos h
theorem aFK {k:Int} {l:List Cel} (h:k≠4):wT k l=[]:=if_neg h
theorem aKZ {k:Int} {ks:List ByteArray} {xs:List Tr} {l:List Cel} (h:k=4):pC k ks xs l=[]:=by
 unfold pC wR;rw[if_neg uAu,if_neg uAu];rfl
abbrev aLV (M:List ByteArray):Prop:=M.Pairwise fun a b=>kb a<kb b
def aFS (M:List ByteArray) (t:ByteArray):Option Nat:=M.findIdx? fun y=>decide (y=t)
theorem aLg {M:List ByteArray} {t:ByteArray} {j:Nat} (h:aFS M t=some j):∃hj:j<M.length,M[j]=t:=by
 obtain⟨hj,h1,_⟩:=List.findIdx?_eq_some_iff_getElem.1 h;exact⟨hj,by simpa using h1⟩
theorem aLh {M:List ByteArray} {t:ByteArray} (h:aFS M t=none):t∉M:=fun hm=>by
 have:=(List.findIdx?_eq_none_iff.1 h) t hm;simp at this
section
variable {M : List ByteArray} {l : List Cel} {t : ByteArray} {c : Cel}
theorem xZ (h:aLV M) (hl:M.length=l.length):iO (M.zip l):=by
 unfold iO;have e:(M.zip l).map (·.1)=M:=oD M l hl;rw[<-iK (f:=fun x:Ent=>x.1) (R:=fun a b=>kb a<kb b),e];exact h
theorem aHn {e:Ent}:e∈M.zip l↔∃i:Nat,M[i]? =some e.1/\l[i]? =some e.2:=by
 rw[List.mem_iff_getElem?];constructor
 ·rintro⟨i,h⟩
  obtain⟨h1,h2⟩:=List.getElem?_zip_eq_some.1 h;exact⟨i,h1,h2⟩
 ·rintro⟨i,h1,h2⟩
  exact⟨i,List.getElem?_zip_eq_some.2 ⟨h1,h2⟩⟩
theorem aEe (h:aLV M) (hl:M.length=l.length) {j:Nat} (hi:aFS M t=some j):∃hj:j<l.length,gL (M.zip l) t=some l[j]:=by
 obtain⟨hj,e⟩:=aLg hi;refine⟨by omega,(aMY (xZ h hl)).2 (aHn.2 ⟨j,?_,?_⟩)⟩
 ·rw[List.getElem?_eq_getElem hj,e]
 ·rw[List.getElem?_eq_getElem]
theorem aEf (hi:aFS M t=none):gL (M.zip l) t=none:=zB.2 fun e he h=>by
 obtain⟨i,h1,_⟩:=aHn.1 he;exact aLh hi (h▸fY h1)
theorem aMX (h:aLV M) (hl:M.length=l.length) (t:ByteArray):gL (M.zip l) t=(aFS M t).bind fun j=>l[j]? :=by
 cases hi:aFS M t with
 |none=>rw[aEf hi];rfl
 |some j=>
  obtain⟨hj,e⟩:=aEe h hl hi;rw[e,aAB,List.getElem?_eq_getElem hj]
theorem aKr {L K:List Ent} (hL:iO L) (hK:iO K) (h:∀e,e∈L↔e∈K):L=K:=
 aCV hL hK ((List.perm_ext_iff_of_nodup (hL.imp fun h e=>rD h (bH Prod.fst e)) (hK.imp fun h e=>rD h (bH Prod.fst e))).2 h)
end
theorem aOe {a:Tr} (h:a.k=5\/a.k=6) (i:Int) (t:ByteArray):atT a i t=aFS (wR a.k a.ks a.xs) t:=by
 unfold atT wR aFS;rcases h with h|h
 ·rw[if_neg uAu,if_pos h,if_pos h]
 ·rw[if_neg uAu,if_neg uAu,if_neg uAu,if_pos h,List.findIdx?_map]
  congr 1
  funext y
  simp[aNX]
end Go.Proofs.YtengibnpebfblaaGreatDoor
