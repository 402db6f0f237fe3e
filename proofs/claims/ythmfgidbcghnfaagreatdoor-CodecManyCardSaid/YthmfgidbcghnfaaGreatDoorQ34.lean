import Derived.Test.YthmfgidbcghnfaaGreatDoorQ0
import Derived.Test.YthmfgidbcghnfaaGreatDoorQ32
import Derived.Test.YthmfgidbcghnfaaGreatDoorQ33
set_option maxRecDepth 1000000
set_option maxHeartbeats 8000000
set_option linter.unusedSimpArgs false
namespace Go.Proofs.YthmfgidbcghnfaaGreatDoor
open Go.RowKit Go.Shelf
attribute [local go_sem] fS
theorem jJ.consU {P:Program} {md:Region.Mode} {ops:Array Oper} {Q:Exit->Act->World->Prop} {S:World->Prop} {U:List Nat} {fuel:Nat} {listed:Array Bool} {a:Act} {w:World} {i:Nat} {o:Oper} {rs:List Nat} (ho:ops[i]? =some o) (hU:U.contains i=true)
  (h:∀K':Act->World->Prop,Shut (∀a w,eL P md ops Q S U fuel (listed.setIfInBounds i true) a w->K' a w)->if Region.wanted o (yielded ops a.tmps)=true then Oper.wp P o a w K' Q else K' (a.put o.dst undef) w)
  (hs:jJ P md ops Q S U fuel listed a w rs):jJ P md ops Q S U fuel listed a w (i::rs):=fun j hj=>by
 rcases bL.1 hj with rfl|hj
 ·exact wpOp_step ho (fun K' hK=>h K' (fun a w hW=>hK a w ⟨(fun hc=>absurd (hU.symm.trans hc) uAv),hW⟩))
 ·exact hs j hj
theorem sG:(Tryz.prog.info? 28).map (·.size)=some 5:=by kernel_rfl
theorem aLI:(Tryz.prog.info? 25).map (·.size)=some 1:=by kernel_rfl
theorem aE8:(Tryz.prog.info? 26).map (·.size)=some 1:=by kernel_rfl
theorem aGM:(Tryz.prog.info? 28).map (fun i=>(i.size,i.zero))=some (5,some (.agg (trC 0 0 ⟨#[]⟩ (.slice none 0 0) (.slice none 0 0)))):=by kernel_rfl
theorem aE9:(Tryz.prog.info? 28).map (fun i=>(i.zero,i.size,i.bytes))=some (some (.agg (trC 0 0 ⟨#[]⟩ (.slice none 0 0) (.slice none 0 0))),5,80):=by kernel_rfl
abbrev pK (T:TypeId):Prop:=T=9\/T=28
theorem aQH:yR pK:=⟨by decide,by decide,by decide,by decide,by decide⟩
def aGo (a:Tr):Prop:=∀(w:World) (x:Cel),fQ a->VAt (fun _=>True) w a x->iF w->
 Calls Tryz.prog 23 #[.agg (aL x)] w fun r w'=>∃c,r=.returned (.agg c)/\c.size=5/\TrS (fun g=>w.heap.size<=g) w' a (.agg c)/\Below w.heap.size w w'
theorem aNt (a:Tr) (ih:∀y∈a.xs,aGo y):aGo a:=by
 intro w x ha hv hT;obtain⟨w1,ag⟩:∃w1,(w.alloc (.cells (aL x) 37)).alloc (.cells (trC 0 0 ⟨#[]⟩ (.slice none 0 0) (.slice none 0 0)) 28)=w1:=⟨_,rfl⟩
 obtain⟨af,ai,bu,al⟩:=fL ag;have Cx:VAt (fun g=>g<w.heap.size) w a x:=hv.old.weak fun _ h=>h.2
 have Ab:4<w.heap.size:=aO w _ (hT 0 uAv);have HX1:=iH ai;have HR1:=iH bu;have HB1:=iH af;have HS1:=iH al;have dh:=iH (fun W=>iQ W x);rw[hv.k]at dh;have Vj:Hid (w1.cell? ⟨w.heap.size,1,none⟩=some (.int .i64 a.n)/\w1.cell? ⟨w.heap.size,2,none⟩=some (.string a.t)):=⟨by rw[<-hv.n];exact aG ai rfl,by rw[<-hv.t];exact aG ai rfl⟩
 have oq:=iH (fun W=>dD.1 (rJ 5 x W));obtain⟨N,hN⟩:∃N,N=a.xs.length:=⟨_,rfl⟩
 have N9:N<=16383:=by rw[hN];exact ha.len
 clear ai bu af al;refine(dD (n:=5)).1 ?_;refine fZ Tryz.func23 rfl trivial ?_ rfl;refine iW.2 ?_;simp only[Tryz.ntmps23,bI,aD,aK,Nat.reduceAdd,Nat.reduceSub,bT,bS,cH,bU,aT,aP];go_upto_region 1 with fail
 clear ag;obtain⟨wg,B8⟩:∃wg,wg=w1.drew:=⟨_,rfl⟩
 have jo:Hid (Below w1.heap.size w1 wg):=by show Below _ _ _;rw[B8];exact aY w1
 have HW:Hid (Below w1.heap.size w1 wg):=jo;have ar:Hid (∀V,Below w1.heap.size w1 V->(V.heap[w.heap.size]? =some (.cells (aL x) 37 (0,0))/\V.cell? ⟨w.heap.size,1,none⟩=some (.int .i64 a.n)/\V.cell? ⟨w.heap.size,2,none⟩=some (.string a.t))):=fun V hV=>⟨kW hV HX1.out,dQ Vj.out.1 hV,dQ Vj.out.2 hV⟩
 refine wp_region_noPanic ?_;refine bO (S:=(fun V=>V.heap[w.heap.size]? =some (.cells (aL x) 37 (0,0))/\V.cell? ⟨w.heap.size,1,none⟩=some (.int .i64 a.n)/\V.cell? ⟨w.heap.size,2,none⟩=some (.string a.t))) [10] uAu (by rw[<-B8];exact ar.out _ jo.out) (fun ab=> ?_);rw[<-B8]at ab ⊢;clear B8;refine tyL 0 6 (hy:=aJ uAz 37 _ rfl w.heap.size rfl (aL x) 37 (0,0) _ (fun w hw=>hw.1) Tryz.underlying37 rfl uCu) (h:=?_);refine tkL 2 8 (h:=?_);(try simp only[pq]);refine tkL 3 9 (h:=?_);refine tkL 4 10 (h:=?_);(try simp only[pq]);refine tkL 5 11 (h:=?_);refine tkL 6 12 (h:=?_);(try simp only[pq]);refine tkL 7 13 (h:=?_);(try simp only[pq]);refine fU (rs:=[1,9]) uAu uAy (jJ.cons (o:=⟨some 7,_,_,_,_,_⟩) rfl (fun K hK=> ?ca) (jJ.cons (o:=⟨some 3,_,_,_,_,_⟩) rfl (fun K hK=> ?cb) jJ.nil))
 case' ca=>
  go_simp;go_at_call 32;(with_reducible refine((dh.out _)).mono ?_);rintro r wk ⟨rfl,hb⟩;replace HW:=iH (tW HW.out hb);clear hb;dsimp only;refine hK.out _ _ uAw (fun ab=> ?_);clear hK K;(try simp only[pq]);refine tkL 8 14 (h:=?_);(try simp only[pq]);refine tkO 9 (some 3) (h:=fun K hK=> ?_);go_simp;have sr:Hid ((wk.alloc (.cells (trC 0 0 ⟨#[]⟩ (.slice none 0 0) (.slice none 0 0)) 28)).heap[wk.heap.size]? =some (.cells (trC 0 0 ⟨#[]⟩ (.slice none 0 0) (.slice none 0 0)) 28 (0,0))):=aC _ _;have ud:Hid (w1.heap.size<=wk.heap.size):=HW.out.size;replace HW:=iH (HW.out.trans ((Below.newly' wk (.cells (trC 0 0 ⟨#[]⟩ (.slice none 0 0) (.slice none 0 0)) 28)).mono HW.out.size));obtain⟨X,hX⟩:∃X,X=wk.heap.size:=⟨_,rfl⟩
  obtain⟨wx,ra⟩:∃wx,wx=wk.alloc (.cells (trC 0 0 ⟨#[]⟩ (.slice none 0 0) (.slice none 0 0)) 28):=⟨_,rfl⟩
  rw[<-ra,<-hX]at sr;rw[<-hX]at ud;rw[<-ra]at HW ⊢;rw[<-hX];clear ra hX;refine hK.out _ _ uAw (fun ab=> ?_);clear hK K;(try simp only[pq]);have fx:=sr
 case' cb=>
  go_simp;have sr:Hid ((wg.alloc (.cells (trC 0 0 ⟨#[]⟩ (.slice none 0 0) (.slice none 0 0)) 28)).heap[wg.heap.size]? =some (.cells (trC 0 0 ⟨#[]⟩ (.slice none 0 0) (.slice none 0 0)) 28 (0,0))):=aC _ _;have ud:Hid (w1.heap.size<=wg.heap.size):=HW.out.size;replace HW:=iH (HW.out.trans ((Below.newly' wg (.cells (trC 0 0 ⟨#[]⟩ (.slice none 0 0) (.slice none 0 0)) 28)).mono HW.out.size));obtain⟨X,hX⟩:∃X,X=wg.heap.size:=⟨_,rfl⟩
  obtain⟨wx,ra⟩:∃wx,wx=wg.alloc (.cells (trC 0 0 ⟨#[]⟩ (.slice none 0 0) (.slice none 0 0)) 28):=⟨_,rfl⟩
  rw[<-ra,<-hX]at sr;rw[<-hX]at ud;rw[<-ra]at HW ⊢;rw[<-hX];clear ra hX;refine hK.out _ _ uAw (fun ab=> ?_);clear hK K;(try simp only[pq]);refine tkO 1 (some 7) (h:=fun K hK=> ?_);go_simp;go_at_call 32;(with_reducible refine((dh.out _)).mono ?_);rintro r wk ⟨rfl,hb⟩;have fx:=iH (kW hb sr.out);replace HW:=iH (tW HW.out hb);clear hb;dsimp only;refine hK.out _ _ uAw (fun ab=> ?_);clear hK K;(try simp only[pq]);refine tkL 8 14 (h:=?_);(try simp only[pq])
 all_goals
  refine tkU 10 none (h:=fun K hK=> ?_);refine eC 28 _ _ rfl X (trC a.k a.n a.t (.slice none 0 0) (.slice none 0 0)) rfl rfl 28 (trC 0 0 ⟨#[]⟩ (.slice none 0 0) (.slice none 0 0)) fx.out sG rfl uAx ?_;intro wa y9 pn;refine hK.out _ _ ?_;clear hK K;(try simp only[pq]);refine bJ uAu ?_ _;refine NoPanic.normal ?_;clear ab;have al:=HS1.out;have Y1:=ud.out;have bh:Below w1.heap.size w1 wa:=HW.out.trans (pn.below hO);have bw:=iH (kW bh HX1.out);have qk:=iH (kW bh HR1.out);have bg:=iH (tW HB1.out bh);have Gv:=iH y9;have Fv:Hid (w.heap.size+2<=X):=by show _<=_;omega
  clear al Y1 bh y9 pn HW ar sr fx HX1 HR1 HB1 HS1 ud dh Vj jo;go_wp2_with (first
   |(refine aW rfl 37 _ rfl w.heap.size rfl 37 _ _ _ bw.out Tryz.underlying37 rfl aF ?_)
   |(go_at_call 51;(with_reducible refine(oq.out _).mono ?_);rintro r w5 ⟨rfl,rfl⟩))
  obtain⟨w5,lh⟩:∃w5,w5=wa.alloc (.cells (aL x) 37):=⟨_,rfl⟩
  obtain⟨Q,hQ⟩:∃Q,Q=wa.heap.size:=⟨_,rfl⟩
  have ay:Below wa.heap.size wa w5:=by rw[lh];exact Below.newly' _ _
  have vw:w5.heap[Q]? =some (.cells (aL x) 37 (0,0)):=by rw[lh,hQ];exact aC _ _
  have ki:w5.heap.size=Q+1:=by rw[lh,hQ];simp
  have Iq:X<Q:=by rw[hQ];exact(gZ Gv.out)
  have Fw:=Fv.out;have Az:=kW ay Gv.out;have Mv:=kW ay qk.out;have vy:Below w.heap.size w w5:=tW bg.out ay;rw[<-lh,<-hQ];clear lh ay hQ bw qk Gv Fv bg;have mi:fW (w.heap.size+2) X a.k a.n a.t [] (.slice none 0 0) (.slice none 0 0) (.slice none 0 0) [] [] w5:=⟨Fw,Az,⟨lM _ _ _ _,by omega,fun _ h=>by cases h⟩,lC.nil hO,by simp[Value.ownBlock],by rw[mN];rfl⟩
  have Mw:VAt (fun g=>g<w.heap.size+2) w5 a x:=(Cx.low vy).weak fun g h=>by omega
  have qm:iF w5:=hT.below vy;obtain⟨la,gu,hseq⟩:=wT aQH Q (w.heap.size+2) a x ha w5 hO vw Mw qm;have j5:=gD gu;have nu:=iH Mv;have bp:=iH vy;refine(iW (n:=5)).1 ?_;refine mF (n₀:=w.heap.size+2) hO (aCI pK (w.heap.size+2)) (gf:=96) (lb:=#[.pointer (some ⟨Q,0,none⟩)]) rfl (iX Tryz.func96 uAu rfl)
   hseq (fun _=>rfl)
   (fun(pre:List (Stp×Cel)) V=>(∃kv xv css,fW (w.heap.size+2) X a.k a.n a.t (a.ks.take pre.length) xv kv xv css (a.xs.take pre.length) V/\css.length=pre.length)/\Below (w.heap.size+2) w5 V)
   (fun s A B' dj hs hg hr=>by
    obtain⟨⟨kv,xv,css,h1,h2⟩,h3⟩:=hs;have de:w5.heap.size<=A.heap.size:=h3.size;have hI:IKW pK w5.heap.size A B':=pO hg de (aA _) hr;exact⟨⟨kv,xv,css,h1.ikw hI (.inl rfl) (.inr rfl),h2⟩,h3.trans (hI.2.1.mono hO)⟩)
   (fun s A B' h hb=>by
    obtain⟨⟨kv,xv,css,h1,h2⟩,h3⟩:=h;exact⟨⟨kv,xv,css,h1.ikw hb (.inl rfl) (.inr rfl),h2⟩,h3.trans (hb.2.1.mono hO)⟩)
   (fun s A B' h hb=>by
    obtain⟨⟨kv,xv,css,h1,h2⟩,h3⟩:=h;have de:w5.heap.size<=A.heap.size:=h3.size;exact⟨⟨kv,xv,css,h1.later hb,h2⟩,h3.trans (hb.mono hO)⟩)
   ⟨⟨_,_,[],by simpa using mi,rfl⟩,bB _ _⟩
   (fun e b V=>V.heap[b]? =some (.cells (aBd e.1) 99 (0,0))/\V.heap[b+1]? =some (.cells (aL e.2) 37 (0,0)))
   (fun e b A l o o' h1 h2 h=>⟨by rw[cN (fun e=>by rw[e,h1]at h;cases h.1;cases h2)];exact h.1,by rw[cN (fun e=>by rw[e,h1]at h;cases h.2;cases h2)];exact h.2⟩)
   (fun h hn=>KW.below h hn)
   (fun e' b'=>{tmps:=#[.agg (aL x),.pointer (some ⟨w.heap.size,0,none⟩),.pointer (some ⟨w.heap.size+1,0,none⟩),.pointer (some ⟨X,0,none⟩),.pointer (some ⟨b',0,none⟩),.pointer (some ⟨b'+1,0,none⟩),.agg (aL x),.int .i64 a.k,.pointer (some ⟨w.heap.size,0,none⟩),.pointer (some ⟨w.heap.size,1,none⟩),.int .i64 a.n,.pointer (some ⟨w.heap.size,0,none⟩),.pointer (some ⟨w.heap.size,2,none⟩),.string a.t,.agg #[.int .i64 a.k,.int .i64 a.n,.string a.t,.slice none 0 0,.slice none 0 0],.agg (aL x),.func (.func 96) #[] #[.pointer (some ⟨Q,0,none⟩)],.agg (aBd e'.1),.agg (aL e'.2),undef,undef,undef,undef,undef,undef,undef,undef,undef,undef,undef,undef,undef,undef,undef,undef,undef,undef,undef,undef],defers:=[]}) ?_ ?_ ?_
  ·
   exact Aa5
  ·
   rintro j pre e' b' V q8 ⟨⟨kv,xv,css,ml,mq⟩,jd⟩ ⟨j2,lj⟩ hpl;obtain⟨q,hq⟩:∃q,q=pre.length:=⟨_,rfl⟩
   have jz:q<a.xs.length:=by
    exact Ac2
   have hat:(gV a la)[q]? =some e':=by
    obtain⟨t,ht⟩:=hpl;rw[<-ht,hq];simp
   obtain⟨cq,ou⟩:=List.getElem?_zip_eq_some.1 hat;have B6:VAt (fun g=>g<w.heap.size+2) V (a.xs[q]) e'.2:=by
    exact Ac9
   rw[<-hq]at ml mq;have Mx:Below w.heap.size w V:=vy.trans (jd.mono hO);have Sj:Hid (iF V):=hT.below Mx;have My:=iH B6;have A1:=iH (ih (a.xs[q]) (aX jz));have zw:=iH (ha.part (aX jz));have Jj:q<=16383:=by omega
   have Mz:a.xs.take (q+1)=a.xs.take q++[a.xs[q]]:=bP jz;have E5:(a.xs.take q).length=q:=by rw[bQ];omega
   obtain⟨ys,nw⟩:∃ys,ys=a.xs.take q:=⟨_,rfl⟩
   obtain⟨yt,M0⟩:∃yt,yt=a.xs[q]:=⟨_,rfl⟩
   rw[<-M0]at My A1 zw;rw[<-nw]at ml;rw[<-nw,<-M0]at Mz;rw[<-nw]at E5;have vq:=iH Mz;have br:=iH (And.intro E5 (And.intro mq Jj));have HQ:=iH hq;obtain⟨⟨s1,s2,s3⟩,xc⟩:=e';have df:(s1=1/\a.k=5/\a.ks.take (q+1)=a.ks.take q++[s3])\/((s1==1)=false/\a.ks.take (q+1)=a.ks.take q):=by
    unfold tQ at cq;by_cases h4:a.k=4
    ·rw[if_pos h4,List.getElem?_map]at cq
     obtain⟨i,_,hi⟩:=eR.1 cq;have h1:(0:Int)=s1:=aU Prod.fst hi;refine .inr ⟨by rw[<-h1];rfl,?_⟩;rw[(ha.1.1.vec h4).1];simp
    by_cases h5:a.k=5
    ·rw[if_neg h4,if_pos h5,List.getElem?_map]at cq
     obtain⟨y,hy,hi⟩:=eR.1 cq;have h1:(1:Int)=s1:=aU Prod.fst hi;have h3:y=s3:=aU (fun e=>e.2.2) hi;obtain⟨Y2,jb⟩:=List.getElem?_eq_some_iff.1 hy;exact .inl ⟨h1.symm,h5,by rw[bP Y2,jb,h3]⟩
    ·rw[if_neg h4,if_neg h5,List.getElem?_map]at cq
     obtain⟨i,_,hi⟩:=eR.1 cq;have h1:(2:Int)=s1:=aU Prod.fst hi;have Oy:a.k=6:=by
      rcases(iA.1 ha.1.1).2 with h|⟨_,_,h|h|h⟩
      ·exfalso;rw[h.2.2.2.2.2]at jz;simp at jz
      all_goals omega
     refine .inr ⟨by rw[<-h1];rfl,?_⟩;rw[(ha.1.1.setD Oy).1];simp
   have ov:=iH (And.intro ki (And.intro Iq Fw));clear hpl hseq gu j5 vw qm Mw Cx hv ha hT ih cq ou B6 hat jz hq nw M0 Mz E5 hN N9 Az Mv mi ki Iq Fw oq nu Jj mq;have ce:V.cell? ⟨b',0,none⟩=some (.int .i64 s1):=aG j2 rfl;rcases df with⟨rfl,_,ei⟩|⟨Y3,ei⟩
   rename_i gp
   have oz:=iH ei;clear ei gp;have ct:V.cell? ⟨b',2,none⟩=some (.string s3):=aG j2 rfl;have cK:V.cell? ⟨X,3,none⟩=some kv:=aG ml.box rfl;obtain⟨ak,ck,rfl⟩:=ml.keys.shape';obtain⟨lk,zx⟩:∃lk,lk=((a.ks.take q).map fun y=>(#[.string y]:Array Value)).length:=⟨_,rfl⟩
   rw[<-zx]at ml cK;have Fx:lk<=16383:=by rw[zx];have:=br.out;simp;omega
   have pr:=iH ml;have uc:=iH lj;have gw:=iH (And.intro q8 jd);have Sk:=iH (And.intro zx Fx);clear j2 lj q8 jd ml zx Fx;focus gi_wp2_with (first
    |(refine uA rfl (fun c' hc=>by cases hc) fun K hK=> ?_;refine aLV 25 9 _ _ rfl (B:=w.heap.size+2) (s:=1) (by_:=16) (z:=.string ⟨#[]⟩) (c:=#[.string s3]) rfl (pr.out.later (Below.newly' V (.cells #[.string s3] 9))).keys V.heap.size _ rfl (aC _ _) rfl uAx Tryz.underlying25 aNS rfl uAv (by have:=Sk.out;omega) uAv ?_;intro uu V2 h2 kx Ge;refine hK _ _ ?_;obtain⟨Sl,Fl,Sm⟩:=h2.shape';obtain⟨m3,B9⟩:∃m3,m3=((List.map (fun y=>(#[.string y]:Array Value)) (a.ks.take q))++[#[Value.string s3]]).length:=⟨_,rfl⟩;rw[<-B9]at Sm;subst Sm;clear B9;have du:=iH (And.intro h2 (And.intro kx Ge));have Jt:V2.heap[X]? =some (.cells (trC a.k a.n a.t (.slice ak lk ck) xv) 28 (0,0)):=(kx.block _ (by have:=(gZ pr.out.box);simp;omega) (fun e=>(pr.out.keys.neX pr.out.box uAv) e.symm)).trans ((pr.out.later (Below.newly' V (.cells #[.string s3] 9))).box);have HX2:=iH Jt;clear h2 kx Ge Jt hK K)
    |(refine uA rfl (fun c' hc=>by cases hc) fun K hK=> ?_;refine tR 25 _ _ rfl X 3 _ rfl rfl rfl 28 _ HX2.out aLI (show 3<5 by omega) ?_;intro V0 h3 k3;refine hK _ _ ?_;have be:=iH h3;have Hy:=iH k3;clear h3 k3 hK K))
   have Sn:=gw.out;have Y4:=ov.out;have A2:=pr.out;have Y6:=Sn.2.size;have ji:=Below.newly' V (.cells #[.string s3] 9);have A3:=A2.later ji;have db:Hid (fW (w.heap.size+2) X a.k a.n a.t (a.ks.take (q+1)) xv (.slice Sl m3 Fl) xv css ys V0):=by
    show fW _ _ _ _ _ _ _ _ _ _ _ _;rw[oz.out];exact A3.key s3 du.out.1 du.out.2.1 du.out.2.2 Hy.out.by_ be.out
   have b9:Hid (∀Y,KW pK (w.heap.size+2) Y V V0):=fun Y=>((KW.below ji hO).trans (A3.keys.kw du.out.2.1 (aA _) (by have:=ji.size;omega) (.inl rfl))).trans (KW.grown Hy.out.by_ A2.low (gZ HX2.out) HX2.out (.inr rfl))
   have vz:Hid (V0.heap[b'+1]? =some (.cells (aL xc) 37 (0,0))):=(b9.out 0).2.2.1 _ _ _ _ uc.out uAv;clear Sn Y4 A2 Y6 ji A3 du HX2 be Hy Sk uc;obtain⟨pt,su⟩:∃pt,pt=Value.slice Sl m3 Fl:=⟨_,rfl⟩
   rw[<-su]at db;clear su
   rotate_left
   have oz:=iH ei
   clear ei;have db:Hid (fW (w.heap.size+2) X a.k a.n a.t (a.ks.take (q+1)) xv kv xv css ys V):=by
    show fW _ _ _ _ _ _ _ _ _ _ _ _;rw[oz.out];exact ml
   have vz:=iH lj;have gw:=iH (And.intro q8 jd);have b9:Hid (∀Y,KW pK (w.heap.size+2) Y V V):=fun Y=>KW.below (bB _ _) (by have:=jd.size;have h3:=ov.out;omega)
   obtain⟨V0,Bn⟩:∃V0,V0=V:=⟨_,rfl⟩
   clear j2 lj q8 jd ml;focus gi_wp2_with fail
   clear ce;rw[<-Bn]at db vz ⊢;obtain⟨pt,su⟩:∃pt,pt=kv:=⟨_,rfl⟩
   rw[<-su]at db;clear su;have Fy:Hid (∀Y,KW pK (w.heap.size+2) Y V V0):=by show∀Y,_;rw[Bn];exact b9.out
   clear Bn b9;have b9:=Fy;clear Fy
   all_goals
    obtain⟨ax,cx,rfl⟩:=db.out.items.own.shape';rw[br.out.2.1]at db;have Ot:(q:Int)<=16383:=by have:=br.out.2.2;omega
    have pg:Hid (∀W,Below V0.heap.size V0 W->Calls Tryz.prog 23 #[.agg (aL xc)] W fun r w'=>∃c,r=.returned (.agg c)/\c.size=5/\TrS (fun g=>W.heap.size<=g) w' yt (.agg c)/\Below W.heap.size W w'):=fun W hW=>by
     have h0:=ov.out;have hk:=(b9.out 0).1;have s8:=(b9.out 0).2.1;have pw:=gw.out.2.size;have dy:Below (w.heap.size+2) V W:=hk.trans (hW.mono hO);exact A1.out W xc zw.out ((My.out.low dy).weak fun _ _=>trivial) (Sj.out.low (B:=w.heap.size+2) hO dy)
    have ar:Hid (∀V',Below V0.heap.size V0 V'->(V'.cell? ⟨X,4,none⟩=some (.slice ax q cx)/\V'.heap[b'+1]? =some (.cells (aL xc) 37 (0,0)))):=fun V' hV=>⟨aG (kW hV db.out.box) rfl,kW hV vz.out⟩
    have HW:Hid (Below V0.heap.size V0 V0.drew):=aY V0;(try gi_wp2_with fail);refine rN (S:=(fun V'=>V'.cell? ⟨X,4,none⟩=some (.slice ax q cx)/\V'.heap[b'+1]? =some (.cells (aL xc) 37 (0,0)))) [6,7,8,9,10] uAu uAu (fun⟨_,_,h⟩=>h) uAw (fun ab=> ?_);refine tkL 0 29 (h:=?_);refine tkL 1 30 (h:=?_);(try simp only[pq]);refine tyL 2 31 (hy:=aJ uAz 37 _ rfl (b'+1) rfl (aL xc) 37 (0,0) _ (fun w hw=>hw.2) Tryz.underlying37 rfl uCu) (h:=?_);refine tkL 4 33 (h:=?_);(try simp only[pq]);refine fU (rs:=[3,5]) uAu uAy (jJ.cons (o:=⟨some 32,_,_,_,_,_⟩) rfl (fun K hK=> ?_) (jJ.cons (o:=⟨some 34,_,_,_,_,_⟩) rfl (fun K hK=> ?_) jJ.nil))
    focus go_simp
    focus go_at_call 23;(with_reducible refine(pg.out _ uBx).mono ?_);rintro r wc ⟨tc,rfl,sv,j1,hb⟩;have jw:=iH sv;have za:=iH (j1.weak fun g hg=>aI HW.out.size hg);have ue:=iH hb;replace HW:=iH (tW HW.out hb);clear hb sv j1;dsimp only;refine hK.out _ _ uAw (fun ab=> ?_);clear hK K;(try simp only[pq]);refine tkO 5 (some 34) (h:=fun K hK=> ?_);refine aIx 26 28 _ rfl (trC 0 0 ⟨#[]⟩ (.slice none 0 0) (.slice none 0 0)) 5 (.agg (trC 0 0 ⟨#[]⟩ (.slice none 0 0) (.slice none 0 0))) rfl rfl uAv uAv Tryz.underlying26 aGM ?_;intro wl hl bf lz;have HL:=iH hl;have jt:=iH bf;replace HW:=iH (tW HW.out bf);clear hl bf lz;refine hK.out _ _ uAw (fun ab=> ?_);clear hK K;(try simp only[pq]);have ig:=iH (za.out.later jt.out);have fu:=HL;have jo:Hid (∃g:Nat,True):=⟨0,trivial⟩
    have ij:Hid (tc.all (·.oneCell')=true):=by show _=true;obtain⟨kk,nn,tt,aa,ll,cc,dd,mm,ee,rfl⟩:=ig.out.trv.cells;simp[Value.oneCell']
    refine tkU 6 (some 35) (h:=fun K hK=> ?_);refine aH8 26 28 _ _ rfl (B:=w.heap.size+2) (s:=5) (by_:=80) (z:=.agg (trC 0 0 ⟨#[]⟩ (.slice none 0 0) (.slice none 0 0))) (c:=(trC 0 0 ⟨#[]⟩ (.slice none 0 0) (.slice none 0 0))) rfl (db.out.later HW.out).items wc.heap.size _ rfl fu.out rfl uAx Tryz.underlying26 aE9 rfl uAv uKu uAv ?_
    rotate_left
    refine aIx 26 28 _ rfl (trC 0 0 ⟨#[]⟩ (.slice none 0 0) (.slice none 0 0)) 5 (.agg (trC 0 0 ⟨#[]⟩ (.slice none 0 0) (.slice none 0 0))) rfl rfl uAv uAv Tryz.underlying26 aGM ?_
    intro wl hl bf lz;have HL:=iH hl;have jt:=iH bf;replace HW:=iH (tW HW.out bf);clear hl bf lz;refine hK.out _ _ uAw (fun ab=> ?_);clear hK K;(try simp only[pq]);refine tkO 3 (some 32) (h:=fun K hK=> ?_);focus go_simp;focus go_at_call 23;(with_reducible refine(pg.out _ uBx).mono ?_);rintro r wc ⟨tc,rfl,sv,j1,hb⟩;have jw:=iH sv;have za:=iH (j1.weak fun g hg=>aI HW.out.size hg);have ue:=iH hb;replace HW:=iH (tW HW.out hb);clear hb sv j1;dsimp only;refine hK.out _ _ uAw (fun ab=> ?_);clear hK K;(try simp only[pq]);have ig:=za;have fu:=iH (kW ue.out HL.out);have ij:Hid (tc.all (·.oneCell')=true):=by show _=true;obtain⟨kk,nn,tt,aa,ll,cc,dd,mm,ee,rfl⟩:=ig.out.trv.cells;simp[Value.oneCell']
    refine tkU 6 (some 35) (h:=fun K hK=> ?_);refine aH8 26 28 _ _ rfl (B:=w.heap.size+2) (s:=5) (by_:=80) (z:=.agg (trC 0 0 ⟨#[]⟩ (.slice none 0 0) (.slice none 0 0))) (c:=(trC 0 0 ⟨#[]⟩ (.slice none 0 0) (.slice none 0 0))) rfl (db.out.later HW.out).items _ _ rfl fu.out rfl uAx Tryz.underlying26 aE9 rfl uAv uKu uAv ?_
    all_goals
     intro Kc wp ni ku ji;obtain⟨gx,ic,aj,pw,sw,sx,_⟩:=ni.at_ uAy;obtain⟨m,hm⟩:∃m,m=(css++[(trC 0 0 ⟨#[]⟩ (.slice none 0 0) (.slice none 0 0))]).length:=⟨_,rfl⟩
     rw[<-hm]at pw;have me:m=q+1:=by rw[hm];have:=br.out.2.1;simp;omega
     subst pw;have M1:(q:Int)<(m:Int):=by omega
     have C4:(0:Int)<=(q:Int):=by omega
     obtain⟨sy,il⟩:=(db.out.later HW.out).grew uKu ni ku ji;have dq:=iH sy;have im:=iH (il ((db.out.later HW.out).news2 ig.out (gZ db.out.box) (fun g e=>(db.out.keys.lt e).2) (fun g e=>(db.out.items.own.lt e).2)));have iq:Hid (∀Y,KW pK (w.heap.size+2) Y V wp):=fun Y=>((b9.out Y).trans (KW.below HW.out (by have h1:=(b9.out 0).2.1;have h2:=gw.out.2.size;have h3:=ov.out;omega))).trans ((db.out.later HW.out).items.own.kw ku (aA _) (by have h1:=(b9.out 0).2.1;have h2:=gw.out.2.size;have h3:=ov.out;have h4:=HW.out.size;omega) (.inr rfl))
     have ir:=iH (And.intro sw sx);have HM:=iH (And.intro hm me);clear ni ku ji sw sx sy il hm me;refine hK.out _ _ ?_;clear hK K;(try simp only[pq]);refine tkP 7 36 (h:=?_);refine tkP 9 37 (h:=?_);(try simp only[pq]);refine fU (rs:=[8,10]) uAu uAy (jJ.consU (o:=⟨none,_,_,_,_,_⟩) rfl uAv (fun K hK=> ?_) (jJ.consU (o:=⟨none,_,_,_,_,_⟩) rfl uAv (fun K hK=> ?_) jJ.nil))
     refine aGZ 28 _ _ rfl dq.out.items gx ic m _ rfl (by show _=_;rw[br.out.2.1]) rfl rfl jw.out ij.out sG ?_
     intro kj gh ey;obtain⟨iu,iw⟩:=dq.out.stored uKu rfl gh ey;have cj:=iH iu;have l9:=iH (iw im.out);have fa:Hid (∀Y,KW pK (w.heap.size+2) Y V kj):=fun Y=>(iq.out Y).trans (KW.grown ey.by_ ir.out.1 (gZ ir.out.2) ir.out.2 (.inr rfl))
     clear gh ey iu iw;refine hK.out _ _ ?_;clear hK K;(try simp only[pq]);refine tkU 10 none (h:=fun K hK=> ?_);refine tR 26 _ _ rfl X 4 _ rfl rfl rfl 28 _ cj.out.box aE8 (show 4<5 by omega) ?_;intro cv ix bc;obtain⟨iy,iz⟩:=cj.out.boxed bc ix;have nj:=iH iy;have fe:=iH (iz l9.out);have ff:Hid (∀Y,KW pK (w.heap.size+2) Y V cv):=fun Y=>(fa.out Y).trans (KW.grown bc.by_ cj.out.low (gZ cj.out.box) cj.out.box (.inr rfl))
     clear iy iz ix bc;refine hK.out _ _ ?_;clear hK K;(try simp only[pq]);refine bJ uAu ?_ _;clear ab;focus gi_wp2
     have az:∀Y,KW pK (w.heap.size+2) Y V cv:=fun Y=>ff.out Y
     rotate_left
     refine tR 26 _ _ rfl X 4 _ rfl rfl rfl 28 _ dq.out.box aE8 (show 4<5 by omega) ?_
     intro cv ix bc;obtain⟨iu,iw⟩:=dq.out.boxed bc ix;have cj:=iH iu;have l9:=iH (iw im.out);have qo:=iH (bc.other ir.out.2 (fun e=>dq.out.apart (by rw[<-e];rfl)));have fa:Hid (∀Y,KW pK (w.heap.size+2) Y V cv):=fun Y=>(iq.out Y).trans (KW.grown bc.by_ dq.out.low (gZ dq.out.box) dq.out.box (.inr rfl))
     clear ix bc iu iw;refine hK.out _ _ ?_;clear hK K;(try simp only[pq]);refine tkU 8 none (h:=fun K hK=> ?_);refine aGZ 28 _ _ rfl cj.out.items gx ic m _ rfl (by show _=_;rw[br.out.2.1]) rfl rfl jw.out ij.out sG ?_;intro kj gh ey;obtain⟨iy,iz⟩:=cj.out.stored uKu rfl gh ey;have nj:=iH iy;have fe:=iH (iz l9.out);have ff:Hid (∀Y,KW pK (w.heap.size+2) Y V kj):=fun Y=>(fa.out Y).trans (KW.grown ey.by_ ir.out.1 (gZ qo.out) qo.out (.inr rfl))
     clear iy iz gh ey;refine hK.out _ _ ?_;clear hK K;(try simp only[pq]);refine bJ uAu ?_ _;clear ab;focus gi_wp2
     have az:∀Y,KW pK (w.heap.size+2) Y V kj:=fun Y=>ff.out Y
     all_goals
      refine⟨⟨(az 0).2.1,fun g o hg ho hc=>(az w5.heap.size).2.2.2 g o hg ho hc⟩,az _,⟨pt,.slice (some ⟨gx,0,none⟩) m ic,css++[tc],?_,?_⟩,gw.out.2.trans (az 0).1⟩
      ·rw[aB,cQ,<-HQ.out,vq.out]
       exact nj.out.part uKu jw.out fe.out
      ·have:=br.out
       have:=HQ.out;simp;omega
  ·
   rintro ys V rfl ⟨⟨kv,xv,css,ml,mq⟩,jd⟩ hD;have nw:(gV a la).length=a.xs.length:=by unfold gV;rw[kP,aAb ha.1.1,j5];exact Nat.min_self _
   have gv:a.ks.take a.xs.length=a.ks:=bC (by
    rcases(iA.1 ha.1.1).2 with h|⟨_,_,h|h|h⟩
    ·rw[h.2.2.2.2.1];exact aS _
    ·rw[h.2];exact aS _
    ·exact jU h.2.1
    ·rw[h.2.1];exact aS _)
   rw[nw,gv,mZ]at ml;rw[nw]at mq;have Fz:=zM a ha.1.1;have C5:=ha.kind;have So:=aI (fO.1 ha.2).1 (show 2000000<=maxLen by decide);have j1:=ml.tree mq So uFz (qT.1 Fz).1;have Y8:Tr.nd a.k a.n a.t a.ks a.xs=a:=by cases a;rfl
   rw[Y8]at j1;have M3:=iH j1;have Ro:=iH ml.box;have vm:=iH ((jd.block (w.heap.size+1) hO).trans nu.out);have fh:=iH (bp.out.trans (jd.mono hO));have HD:=iH hD;have ov:=iH (And.intro ki (And.intro Iq Fw));obtain⟨ak,lk,ck,rfl⟩:∃ak lk ck,kv=.slice ak lk ck:=by obtain⟨a,c,e⟩:=ml.keys.shape';exact⟨a,_,c,e⟩
   obtain⟨ax,lx,cx,rfl⟩:∃ax lx cx,xv=.slice ax lx cx:=by obtain⟨a,c,e⟩:=ml.items.own.shape';exact⟨a,_,c,e⟩
   clear ml mq jd hD nw gv Fz C5 So j1 hseq gu j5 vw qm Mw Cx hv ha hT ih hN N9 Az Mv mi ki Iq Fw oq nu;go_wp2_with (first
    |(refine aW rfl 28 _ rfl X rfl 28 _ _ _ Ro.out Tryz.underlying28 rfl sG ?_)
    |(refine aV rfl 28 _ _ rfl (w.heap.size+1) (trC a.k a.n a.t (.slice ak lk ck) (.slice ax lx cx)) rfl rfl 28 _ vm.out sG rfl uAx ?_;intro w8 h8 k8))
   have hh:=ov.out;have td:=(gZ HD.out)
   have Sq:w8.heap[w5.heap.size]? =some (.deferred (some [])):=k8.other HD.out hO;have h9:=(cN (w:=w8) (o:=.deferred none) (show w.heap.size+1≠w5.heap.size by omega)).trans h8;have Ay:=fC w8 w5.heap.size (.deferred none);have xm:Below w.heap.size w w8:=fh.out.trans (k8.below hO);refine⟨by simp[Act.put],.inl ⟨_,_,rfl,lG Sq,_,bE rfl _ _ (w.heap.size+1) 28 _ (0,0) _ rfl h9 Tryz.underlying28 rfl sG,_,rfl,rfl,?_,xm.grown Ay xm.size fun k e=> ?_⟩⟩
   ·refine((M3.out.kept (KT.grown k8.by_ fun Y e hY=> ?_)).kept fun g aj T fr hS hT e=> ?_).weak fun g hg=> ?_
    ·cases e
     have:w.heap.size+2<=w.heap.size+1:=hY;omega
    ·rw[cN (fun e'=>by rw[e',Sq]at e;cases e)]
     exact e
    ·have:w.heap.size+2<=g:=hg
     omega
   ·cases e;omega
end Go.Proofs.YthmfgidbcghnfaaGreatDoor
