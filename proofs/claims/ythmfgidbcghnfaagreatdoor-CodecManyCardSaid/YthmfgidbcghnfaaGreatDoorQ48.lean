import Derived.Test.YthmfgidbcghnfaaGreatDoorQ0
import Derived.Test.YthmfgidbcghnfaaGreatDoorQ47
set_option maxRecDepth 1000000
set_option maxHeartbeats 8000000
set_option linter.unusedSimpArgs false
namespace Go.Proofs.YthmfgidbcghnfaaGreatDoor
open Go.RowKit
structure Wt (C B b:Nat) (w1:World) (t:List UInt8) (V:World):Prop where
 bld:Bld B b t V
 kp:mX B b w1 V
 hB:B<=V.heap.size
 cx:yQ C V
theorem Wt.more {C B b:Nat} {w1 V V':World} {t:List UInt8} (h:Wt C B b w1 t V) (hb:Below V.heap.size V V'):Wt C B b w1 t V':=
 ⟨h.bld.later hb,pV h.kp (aAY hb h.hB),aI h.hB hb.size,by
  obtain⟨w0,e1,e2,e3,e4⟩:=h.cx;exact⟨w0,e1,e2,e3,e4.trans (hb.mono (by have:=e4.size;omega))⟩⟩
theorem Wt.wrote {C B b:Nat} {w1 V V':World} {t t':List UInt8} (h:Wt C B b w1 t V) (hC:C<=B) (bf:Bld B b t' V') (hk:mX B b V V'):Wt C B b w1 t' V':=
 ⟨bf,pV h.kp hk,aI h.hB hk.1.size,h.cx.later hk.1 hC⟩
theorem Wt.row {C B b:Nat} {w1 V:World} {t:List UInt8} (h:Wt C B b w1 t V) {k:Nat} {cs:Array Value} {T:TypeId} {fr:Nat×Nat} (hk:w1.heap[k]? =some (.cells cs T fr)) (zu:k≠b) (hT:T≠5):V.heap[k]? =some (.cells cs T fr):=
 pU h.kp hk zu hT
theorem Wt.base {C B b:Nat} {w1 V V':World} {t t':List UInt8} (h:Wt C B b w1 t V) (k:Wt C B b V t' V'):Wt C B b w1 t' V':=⟨k.bld,pV h.kp k.kp,k.hB,k.cx⟩
theorem mJ (B b:Nat) (l z:List UInt8) (S:ByteArray) (w:World) (hS:S=⟨z.toArray⟩) (h:Bld B b l w) (an:l.length+z.length<=140737488355328) (Gd:B<=w.heap.size):
  Calls Tryz.prog 59 #[.pointer (some ⟨b,0,none⟩),.string S] w fun e w'=>(∃m:Nat,e=.returned (.tuple #[.int .i64 (m:Int),.nilIface]))/\Bld B b (l++z) w'/\mX B b w w':=by
 rw[hS];exact rB B b l z w h an Gd
theorem aJK (a:Tr) (wy:4<=a.k) (ih:∀y∈a.xs,WrF 42 y):WrF 75 a:=by
 intro C B b l v w hc I6 hB bf hv ha an;obtain⟨k,n,t,ks,xs⟩:=a;have Ti:=hv;rw[TrS]at Ti;obtain⟨kv,xv,css,rfl,ht,uh,hn,LK,LX,_⟩:=Ti;obtain⟨_,_,kd,rh,rfl,_⟩:=LK;obtain⟨_,_,ad,cap,rfl,_⟩:=LX;have C5:=ha.kind;simp only[Tr.k,Tr.xs]at C5 wy ih;have hk:k=4\/k=5\/k=6:=by omega
 have Jj:xs.length<=16383:=ha.len;have oe:k=5->ks.length=xs.length:=fun h=>by subst h;exact(ha.1.1.mapD rfl).1
 rw[pG hk]at an ⊢;obtain⟨N,hN⟩:∃N,N=xs.length:=⟨_,rfl⟩
 obtain⟨lk,zx⟩:∃lk,lk=ks.length:=⟨_,rfl⟩
 rw[<-hN]at hv Jj ⊢;rw[<-zx]at hv ⊢;obtain⟨w1,ag⟩:∃w1,w.alloc (.cells (trC k n t (.slice kd lk rh) (.slice ad N cap)) 28)=w1:=⟨_,rfl⟩
 obtain⟨af,ai,al⟩:=fH ag;have tu:w1.cell? ⟨w.heap.size,0,none⟩=some (.int .i64 k):=aG ai rfl;have HX1:=iH ai;have HB1:=iH af;have Gb:Hid (b<w.heap.size):=bf.lt;have Cm:Hid (Wt C B b w1 l w1):=⟨bf.later af,aAY (bB _ _) (by have:=af.size;omega),by have:=af.size;omega,hc.later af hO⟩
 have B0:=iH (hv.later af);have Ki:=iH (fun W=>aD9 k hk W);have j8:Hid (B<=w.heap.size):=hB;have xd:Hid (C<=B):=I6;have LU:=iH ih;have zw:=iH ha;have HP:=iH (And.intro hk (And.intro oe (And.intro hN (And.intro zx an))));have Em:(N:Int)<=16383:=by omega
 clear af ai al bf hB uh ht hc I6 hv ih ha an hk oe C5 wy hn hN zx;go_enter Tryz.func75,Tryz.ntmps75;go_upto_region 1 with fail
 clear ag;go_upto_region 3 with(first
  |(go_at_call 118;(with_reducible refine(Ki.out _).mono ?_);rintro r V ⟨rfl,rfl⟩)
  |(go_at_call 59;(with_reducible refine(mJ B b l [sK k] ⟨#[sK k]⟩ w1 rfl Cm.out.bld uMy Cm.out.hB).mono ?_);rintro r w2 ⟨⟨m,rfl⟩,bf,ef⟩;have fy:=iH (Cm.out.wrote xd.out bf ef);clear bf ef))
 clear tu;have LV:w2.cell? ⟨w.heap.size,4,none⟩=some (.slice ad N cap):=aG (fy.out.row HX1.out (fA Gb.out) uAv) rfl;go_wp2_with fail
 clear LV;go_loopw [20] (fun i W=>∃j:Nat,j<=N/\i=.int .i64 (j:Int)/\Wt C B b w1 (l++sK k::kU k ks (xs.take j)) W) (fun i _=>N-(intOf i).toNat)
 case atStart=>exact⟨0,aS _,rfl,by rw[eF,kU];exact fy.out⟩
 case round=>
  obtain⟨j,hj,rfl,K3⟩:=hrel;by_cases hlt:j<N
  case neg=>
   obtain rfl:j=N:=by omega
   have l0:¬(j:Int)<(j:Int):=by omega
   rw[bC (l:=xs) (by rw[<-HP.out.2.2.1];omega)]at K3;have ye:=iH K3;clear K3;go_wp2_with (go_at_call 59;(with_reducible refine(mJ B b _ [kR k] ⟨#[kR k]⟩ wr rfl ye.out.bld uMy ye.out.hB).mono ?_);rintro r w9 ⟨⟨m,rfl⟩,bf,ef⟩;have FB:=iH (ye.out.wrote xd.out bf ef);clear bf ef)
   go_end0;exact⟨rfl,by have h:=FB.out.bld;simpa using h,pV (aAY HB1.out j8.out) FB.out.kp⟩
  have l0:(j:Int)<(N:Int):=by omega
  have i0:(0:Int)<=(j:Int):=by omega
  have ew:=iH hlt;have Ku:j<xs.length:=by rw[<-HP.out.2.2.1];exact hlt
  have j1:=B0.out.kept (aOX K3.kp);obtain⟨bb,oo,k',n',t',pa,qa,pl,pc,ql,qc,rfl,Jn,Rp⟩:=j1.item Ku;have pd:=aX Ku;have df:l++sK k::kU k ks (xs.take (j+1))=_:=aU (fun z=>l++sK k::z) (aES (k:=k) (ks:=ks) Ku);have dx:(l++sK k::kU k ks (xs.take (j+1))).length<=140737488355328:=by
   have h1:=aS0 (k:=k) (ks:=ks) (xs:=xs) (j+1);have h2:=HP.out.2.2.2.2;simp only[aB,aD,aK]at h2 ⊢;omega
  obtain⟨y,hy⟩:∃y,y=xs[j]:=⟨_,rfl⟩
  rw[<-hy]at Rp pd df;have HR:=iH Jn;have ye:=iH K3;have A4:Hid (∀V,mX B b wr V->TrS (fun g=>g≠b) V y (.agg (trC k' n' t' (.slice pa pl pc) (.slice qa ql qc)))):=fun V hV=>Rp.kept (aOX hV)
  have I7:=iH (K3.row HX1.out (fA Gb.out) uAv);have pg:Hid (∀(B b:Nat) (l:List UInt8) (v:Value) (w:World),yQ C w->C<=B->B<=w.heap.size->Bld B b l w->TrS (fun g=>g≠b) w y v->l.length+(eY y).length<=140737488355328->Calls Tryz.prog 42 #[.pointer (some ⟨b,0,none⟩),v] w fun e w'=>e=.returned (.tuple #[])/\Bld B b (l++eY y) w'/\mX B b w w'):=fun B b l v w h1 h2 h3 h4 h5 h6=>LU.out y pd C B b l v w h1 h2 h3 h4 h5 (zw.out.part pd) h6
  have B3:Hid (b<wr.heap.size):=K3.bld.lt;have xh:Hid (k=5->j<ks.length):=fun h=>by rw[HP.out.2.1 h];exact Ku
  obtain⟨t0,mi⟩:∃t,t=l++sK k::kU k ks (xs.take j):=⟨_,rfl⟩
  rw[<-mi]at ye;have oy:Hid (Wt C B b wr t0 wr):=⟨ye.out.bld,aAY (bB _ _) ye.out.hB,ye.out.hB,ye.out.cx⟩
  clear K3 Jn Rp pd Ku hy;by_cases gp:k=5
  case pos=>
   have e5:(k==5)=true:=eK.2 gp;have qt:=xh.out gp;have LW:(j:Int)<(lk:Int):=by have:=HP.out.2.2.2.1;omega
   obtain⟨Kt,ko,rfl,S8⟩:=j1.key qt;obtain⟨ky,uv⟩:∃ky,ky=ks[j]:=⟨_,rfl⟩
   have zf:Hid (∀V,mX B b wr V->V.cell? ⟨Kt,ko+j,none⟩=some (.string ky)):=fun V hV=>by
    obtain⟨b2,o2,e,h⟩:=(j1.kept (aOX hV)).key qt;simp only[bA,mE,rV]at e;obtain⟨rfl,rfl⟩:=e;rw[uv];exact h
   have Nw:ky.size<=2000000:=by rw[uv];exact(fO.1 zw.out.2).2.1 _ (aX qt)
   have fj:ks.getD j ⟨#[]⟩=ky:=by rw[uv];simp[List.getD,List.getElem?_eq_getElem qt]
   rw[fj]at df;obtain⟨qz,Kn⟩:∃qz,qz=gI (kb ky):=⟨_,rfl⟩
   have Nv:Hid (∀W,yQ C W->Calls Tryz.prog 74 #[.string ky] W fun e w'=>e=.returned (.string ⟨qz.toArray⟩)/\Below W.heap.size W w'):=fun W hW=>by
    rw[Kn];exact aFF ky W Nw hW.esc
   by_cases Gc:0<j
   case pos=>
    have Bc:(0:Int)<(j:Int):=by omega
    have fk:Hid (l++sK k::kU k ks (xs.take (j+1))=(((t0++[44])++qz)++[58])++eY y):=by
     show _=_;rw[df,mi,Kn];simp[aI6,gp,Gc]
    have fw:Hid (((((t0++[44])++qz)++[58])++eY y).length<=140737488355328):=by
     show _<=_;rw[<-fk.out];exact dx
    clear df dx mi gp j1 Kn qt S8 uv Nw fj;go_wp2_with (first
     |(refine aKz uAz _ rfl bb (oo+j*5) rfl (trC k' n' t' (.slice pa pl pc) (.slice qa ql qc)) HR.out rfl ?_)
     |(refine aV rfl 28 _ _ rfl wr.heap.size (trC k' n' t' (.slice pa pl pc) (.slice qa ql qc)) rfl rfl 28 (trC 0 0 ⟨#[]⟩ (.slice none 0 0) (.slice none 0 0)) (aC _ _) pN rfl uAx ?_;intro w2 h2 k2;have gy:=iH (oy.out.more ((Below.newly' wr _).trans (k2.below (aA _))));have Bd:=iH h2;have tu:w2.cell? ⟨w.heap.size,0,none⟩=some (.int .i64 k):=aG (gy.out.row I7.out (fA Gb.out) uAv) rfl;have FC:w2.cell? ⟨w.heap.size,3,none⟩=some (.slice (some ⟨Kt,ko,none⟩) lk rh):=aG (gy.out.row I7.out (fA Gb.out) uAv) rfl;have Tj:w2.cell? ⟨Kt,ko+j,none⟩=some (.string ky):=zf.out w2 gy.out.kp;clear h2 k2)
     |(go_at_call 59;(with_reducible refine(mJ B b t0 [44] ⟨#[44]⟩ w2 rfl gy.out.bld uBy gy.out.hB).mono ?_);rintro r w3 ⟨⟨m,rfl⟩,bf,ef⟩;have rj:=iH (gy.out.wrote xd.out bf ef);have Nx:=iH (pU ef Bd.out (fA B3.out) uAv);have tu:w3.cell? ⟨w.heap.size,0,none⟩=some (.int .i64 k):=aG (rj.out.row I7.out (fA Gb.out) uAv) rfl;have FC:w3.cell? ⟨w.heap.size,3,none⟩=some (.slice (some ⟨Kt,ko,none⟩) lk rh):=aG (rj.out.row I7.out (fA Gb.out) uAv) rfl;have Tj:w3.cell? ⟨Kt,ko+j,none⟩=some (.string ky):=zf.out w3 rj.out.kp;clear bf ef)
     |(go_at_call 74;(with_reducible refine(Nv.out _ rj.out.cx).mono ?_);rintro r w4 ⟨rfl,hb⟩;have Be:=iH (rj.out.more hb);have Ny:=iH (kW hb Nx.out);clear hb)
     |(go_at_call 59;(with_reducible refine(mJ B b (t0++[44]) qz ⟨qz.toArray⟩ w4 rfl Be.out.bld uBy Be.out.hB).mono ?_);rintro r w5 ⟨⟨m,rfl⟩,bf,ef⟩;have Bf:=iH (Be.out.wrote xd.out bf ef);have Nz:=iH (pU ef Ny.out (fA B3.out) uAv);skip;clear bf ef)
     |(go_at_call 59;(with_reducible refine(mJ B b ((t0++[44])++qz) [58] ⟨#[58]⟩ w5 rfl Bf.out.bld uBy Bf.out.hB).mono ?_);rintro r w6 ⟨⟨m,rfl⟩,bf,ef⟩;have s7:=iH (Bf.out.wrote xd.out bf ef);have N2:=iH (pU ef Nz.out (fA B3.out) uAv);skip;clear bf ef)
     |(refine aW rfl 28 _ rfl wr.heap.size rfl 28 _ _ _ N2.out Tryz.underlying28 rfl pN ?_)
     |(go_at_call 42;(with_reducible refine(pg.out B b (((t0++[44])++qz)++[58]) _ w6 s7.out.cx xd.out s7.out.hB s7.out.bld (A4.out w6 s7.out.kp) uBy).mono ?_);rintro r w7 ⟨rfl,bf,ef⟩;have I8:=iH (s7.out.wrote xd.out bf ef);clear bf ef))
    exact Ab7
   have Bc:¬(0:Int)<(j:Int):=by omega
   have fk:Hid (l++sK k::kU k ks (xs.take (j+1))=((t0++qz)++[58])++eY y):=by
    show _=_;rw[df,mi,Kn];simp[aI6,gp,Gc]
   have fw:Hid ((((t0++qz)++[58])++eY y).length<=140737488355328):=by
    show _<=_;rw[<-fk.out];exact dx
   clear df dx mi gp j1 Kn qt S8 uv Nw fj;go_wp2_with (first
    |(refine aKz uAz _ rfl bb (oo+j*5) rfl (trC k' n' t' (.slice pa pl pc) (.slice qa ql qc)) HR.out rfl ?_)
    |(refine aV rfl 28 _ _ rfl wr.heap.size (trC k' n' t' (.slice pa pl pc) (.slice qa ql qc)) rfl rfl 28 (trC 0 0 ⟨#[]⟩ (.slice none 0 0) (.slice none 0 0)) (aC _ _) pN rfl uAx ?_;intro w2 h2 k2;have gy:=iH (oy.out.more ((Below.newly' wr _).trans (k2.below (aA _))));have Bd:=iH h2;have tu:w2.cell? ⟨w.heap.size,0,none⟩=some (.int .i64 k):=aG (gy.out.row I7.out (fA Gb.out) uAv) rfl;have FC:w2.cell? ⟨w.heap.size,3,none⟩=some (.slice (some ⟨Kt,ko,none⟩) lk rh):=aG (gy.out.row I7.out (fA Gb.out) uAv) rfl;have Tj:w2.cell? ⟨Kt,ko+j,none⟩=some (.string ky):=zf.out w2 gy.out.kp;clear h2 k2)
    |(go_at_call 74;(with_reducible refine(Nv.out _ gy.out.cx).mono ?_);rintro r w4 ⟨rfl,hb⟩;have Be:=iH (gy.out.more hb);have Ny:=iH (kW hb Bd.out);clear hb)
    |(go_at_call 59;(with_reducible refine(mJ B b t0 qz ⟨qz.toArray⟩ w4 rfl Be.out.bld uBy Be.out.hB).mono ?_);rintro r w5 ⟨⟨m,rfl⟩,bf,ef⟩;have Bf:=iH (Be.out.wrote xd.out bf ef);have Nz:=iH (pU ef Ny.out (fA B3.out) uAv);skip;clear bf ef)
    |(go_at_call 59;(with_reducible refine(mJ B b (t0++qz) [58] ⟨#[58]⟩ w5 rfl Bf.out.bld uBy Bf.out.hB).mono ?_);rintro r w6 ⟨⟨m,rfl⟩,bf,ef⟩;have s7:=iH (Bf.out.wrote xd.out bf ef);have N2:=iH (pU ef Nz.out (fA B3.out) uAv);skip;clear bf ef)
    |(refine aW rfl 28 _ rfl wr.heap.size rfl 28 _ _ _ N2.out Tryz.underlying28 rfl pN ?_)
    |(go_at_call 42;(with_reducible refine(pg.out B b ((t0++qz)++[58]) _ w6 s7.out.cx xd.out s7.out.hB s7.out.bld (A4.out w6 s7.out.kp) uBy).mono ?_);rintro r w7 ⟨rfl,bf,ef⟩;have I8:=iH (s7.out.wrote xd.out bf ef);clear bf ef))
   exact Ab7
  have e5:(k==5)=false:=aE.2 gp;by_cases Gc:0<j
  case pos=>
   have Bc:(0:Int)<(j:Int):=by omega
   have fk:Hid (l++sK k::kU k ks (xs.take (j+1))=(t0++[44])++eY y):=by
    show _=_;rw[df,mi];simp[aI6,gp,Gc]
   have fw:Hid (((t0++[44])++eY y).length<=140737488355328):=by
    show _<=_;rw[<-fk.out];exact dx
   clear df dx mi gp j1;go_wp2_with (first
    |(refine aKz uAz _ rfl bb (oo+j*5) rfl (trC k' n' t' (.slice pa pl pc) (.slice qa ql qc)) HR.out rfl ?_)
    |(refine aV rfl 28 _ _ rfl wr.heap.size (trC k' n' t' (.slice pa pl pc) (.slice qa ql qc)) rfl rfl 28 (trC 0 0 ⟨#[]⟩ (.slice none 0 0) (.slice none 0 0)) (aC _ _) pN rfl uAx ?_;intro w2 h2 k2;have gy:=iH (oy.out.more ((Below.newly' wr _).trans (k2.below (aA _))));have Bd:=iH h2;have tu:w2.cell? ⟨w.heap.size,0,none⟩=some (.int .i64 k):=aG (gy.out.row I7.out (fA Gb.out) uAv) rfl;clear h2 k2)
    |(go_at_call 59;(with_reducible refine(mJ B b t0 [44] ⟨#[44]⟩ w2 rfl gy.out.bld uBy gy.out.hB).mono ?_);rintro r w3 ⟨⟨m,rfl⟩,bf,ef⟩;have rj:=iH (gy.out.wrote xd.out bf ef);have Nx:=iH (pU ef Bd.out (fA B3.out) uAv);have tu:w3.cell? ⟨w.heap.size,0,none⟩=some (.int .i64 k):=aG (rj.out.row I7.out (fA Gb.out) uAv) rfl;clear bf ef)
    |(refine aW rfl 28 _ rfl wr.heap.size rfl 28 _ _ _ Nx.out Tryz.underlying28 rfl pN ?_)
    |(go_at_call 42;(with_reducible refine(pg.out B b (t0++[44]) _ w3 rj.out.cx xd.out rj.out.hB rj.out.bld (A4.out w3 rj.out.kp) uBy).mono ?_);rintro r w7 ⟨rfl,bf,ef⟩;have I8:=iH (rj.out.wrote xd.out bf ef);clear bf ef))
   exact Ab7
  have Bc:¬(0:Int)<(j:Int):=by omega
  have fk:Hid (l++sK k::kU k ks (xs.take (j+1))=t0++eY y):=by
   show _=_;rw[df,mi];simp[aI6,gp,Gc]
  have fw:Hid ((t0++eY y).length<=140737488355328):=by
   show _<=_;rw[<-fk.out];exact dx
  clear df dx mi gp j1;go_wp2_with (first
   |(refine aKz uAz _ rfl bb (oo+j*5) rfl (trC k' n' t' (.slice pa pl pc) (.slice qa ql qc)) HR.out rfl ?_)
   |(refine aV rfl 28 _ _ rfl wr.heap.size (trC k' n' t' (.slice pa pl pc) (.slice qa ql qc)) rfl rfl 28 (trC 0 0 ⟨#[]⟩ (.slice none 0 0) (.slice none 0 0)) (aC _ _) pN rfl uAx ?_;intro w2 h2 k2;have gy:=iH (oy.out.more ((Below.newly' wr _).trans (k2.below (aA _))));have Bd:=iH h2;have tu:w2.cell? ⟨w.heap.size,0,none⟩=some (.int .i64 k):=aG (gy.out.row I7.out (fA Gb.out) uAv) rfl;clear h2 k2)
   |(refine aW rfl 28 _ rfl wr.heap.size rfl 28 _ _ _ Bd.out Tryz.underlying28 rfl pN ?_)
   |(go_at_call 42;(with_reducible refine(pg.out B b t0 _ w2 gy.out.cx xd.out gy.out.hB gy.out.bld (A4.out w2 gy.out.kp) uBy).mono ?_);rintro r w7 ⟨rfl,bf,ef⟩;have I8:=iH (gy.out.wrote xd.out bf ef);clear bf ef))
  exact Ab7
theorem aPU (a:Tr):WrF 42 a:=kD (P:=fun a=>WrF 42 a) (fun k n t ks xs ih=>aMU (.nd k n t ks xs) fun h4=>aJK (.nd k n t ks xs) h4 ih) a
theorem xN (a:Tr) (y:Cel) (w:World) (hE:Esc w) (hP:Tab w) (h6:iF w) (hy:VAt (fun _=>True) w a y) (ha:fQ a):
  Calls Tryz.prog 17 #[.agg (aL y)] w fun e w'=>e=.returned (.string ⟨(eY a).toArray⟩)/\Below w.heap.size w w':=by
 obtain⟨w1,ag⟩:∃w1,w.alloc (.cells (aL y) 37)=w1:=⟨_,rfl⟩
 obtain⟨af,ai,al⟩:=fH ag;obtain⟨w2,eh⟩:∃w2,w1.alloc (.cells #[.pointer none,.slice none 0 0] 82)=w2:=⟨_,rfl⟩
 have bf:=aL6 w1;rw[eh]at bf;have ah:Below w1.heap.size w1 w2:=by rw[<-eh];exact Below.newly' _ _
 have de:=ah.size;have HX1:=iH (kW ah ai);have aq:Hid (Below w.heap.size w w2):=tW af ah;have jt:=iH bf;have HS1:Hid (w1.heap.size=w.heap.size+1):=al;have Di:Hid (yQ w.heap.size w2):=(yQ.start hE hP).later aq.out (aA _);have za:=iH (aQu a w2 y ha (hy.later aq.out) (h6.below aq.out));have ye:=iH (aPU a);have zw:=iH ha;have ew:Hid (w1.heap.size<w2.heap.size):=bf.lt;clear hE hP h6 hy ha af ai al bf ah de;go_enter Tryz.func17,Tryz.ntmps17;go_upto_region 1 with fail
 try rw[ag]
 go_upto_region 2 with fail
 try rw[eh]
 obtain⟨b,hb⟩:∃b,b=w1.heap.size:=⟨_,rfl⟩
 have zy:Hid (b=w.heap.size+1):=hb.trans HS1.out;rw[<-hb]at jt ew ⊢;clear ag eh hb HS1;go_wp2_with (first
  |(refine aW rfl 37 _ rfl w.heap.size rfl 37 _ _ _ HX1.out Tryz.underlying37 rfl aF ?_)
  |(go_at_call 23;(with_reducible refine za.out.mono ?_);rintro r V ⟨c,rfl,_,hc,Ic⟩;have HC:=iH hc;have fh:=iH Ic;clear hc Ic)
  |(go_at_call 42;(refine(ye.out w.heap.size b b [] _ V (Di.out.later fh.out (by have h1:=aq.out.size;omega)) (by have:=zy.out;omega) (by have h1:=ew.out;have h2:=fh.out.size;omega) (jt.out.later fh.out) (HC.out.weak fun g hg e=>by have h1:=ew.out;omega) zw.out (by have h:=aRZ zw.out;rw[aK];omega)).mono ?_);rintro r V2 ⟨rfl,bf,ef⟩;have s6:=iH bf;have LY:=iH ef;have LZ:Hid (V.heap.size<=V2.heap.size):=ef.1.size;clear bf ef)
  |(go_at_call 43;(with_reducible refine(aDi b b _ V2 s6.out (by have h1:=ew.out;have h2:=fh.out.size;have h3:=LZ.out;omega)).mono ?_);rintro r V3 ⟨rfl,hb⟩;have av:=iH hb;clear hb))
 go_ret;have hz:=zy.out;have P6:=aq.out.size;exact⟨rfl,aq.out.trans ((fh.out.mono P6).trans ((LY.out.1.mono hO).trans (av.out.mono hO)))⟩
end Go.Proofs.YthmfgidbcghnfaaGreatDoor
