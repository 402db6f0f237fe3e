import Derived.Test.YthmfgidbcghnfaaGreatDoorQ0
import Derived.Test.YthmfgidbcghnfaaGreatDoorQ45
import Derived.Test.YthmfgidbcghnfaaGreatDoorQ46
set_option maxRecDepth 1000000
set_option maxHeartbeats 8000000
set_option linter.unusedSimpArgs false
namespace Go.Proofs.YthmfgidbcghnfaaGreatDoor
open Go.RowKit
theorem aAY {B b:Nat} {V W:World} (h:Below V.heap.size V W) (hB:B<=V.heap.size):mX B b V W:=⟨h.mono hB,fun k _ ho _ _=>(h.block k (gZ ho)).trans ho⟩
theorem pV {B b:Nat} {U V W:World} (h:mX B b U V) (k:mX B b V W):mX B b U W:=⟨h.1.trans k.1,h.2.trans k.2⟩
theorem aOX {B b:Nat} {V W:World} (h:mX B b V W):KT (fun g=>g≠b) V W:=fun g _ _ _ hg hT e=>h.2 g _ e (fun c=>hg (aH c)) (fun _ _ e2=>by
 cases e2
 rcases hT with h|h<;>exact absurd h uAv)
theorem rB (B b:Nat) (l z:List UInt8) (w:World) (h:Bld B b l w) (an:l.length+z.length<=140737488355328) (Gd:B<=w.heap.size):
  Calls Tryz.prog 59 #[.pointer (some ⟨b,0,none⟩),.string ⟨z.toArray⟩] w fun e w'=>(∃m:Nat,e=.returned (.tuple #[.int .i64 (m:Int),.nilIface]))/\Bld B b (l++z) w'/\mX B b w w':=
 (aAF B b l ⟨z.toArray⟩ w h (by show _+z.toArray.size<=_;rw[bI];exact an) Gd).mono fun _ _ h=>⟨⟨_,h.1⟩,by simpa using h.2.1,h.2.2⟩
def yQ (B:Nat) (w:World):Prop:=∃w0,w0.heap.size=B/\Esc w0/\Tab w0/\Below B w0 w
theorem yQ.esc {B:Nat} {w:World} (h:yQ B w):Esc w:=by obtain⟨w0,rfl,h1,_,h2⟩:=h;exact h1.below h2
theorem yQ.tab {B:Nat} {w:World} (h:yQ B w):Tab w:=by obtain⟨w0,rfl,_,h1,h2⟩:=h;exact h1.below h2
theorem yQ.later {B C:Nat} {w w':World} (h:yQ B w) (hb:Below C w w') (hC:B<=C):yQ B w':=by
 exact Al4
theorem yQ.start {w:World} (h:Esc w) (h6:Tab w):yQ w.heap.size w:=⟨w,rfl,h,h6,bB _ _⟩
theorem TrS.item {S:Nat->Prop} {w:World} {k n k9 n9:Int} {t t9:ByteArray} {ks:List ByteArray} {xs:List Tr} {kv:Value} {ad:Option Addr} {N cap:Nat} (h:TrS S w (.nd k n t ks xs) (.agg (trC k9 n9 t9 kv (.slice ad N cap)))) {j:Nat} (hj:j<xs.length):
  ∃(bb oo:Nat) (k' n':Int) (t':ByteArray) (pa qa:Option Addr) (pl pc ql qc:Nat),ad=some ⟨bb,oo,none⟩/\w.rangeAt bb (oo+j*5) (trC k' n' t' (.slice pa pl pc) (.slice qa ql qc)).toList/\TrS S w xs[j] (.agg (trC k' n' t' (.slice pa pl pc) (.slice qa ql qc))):=by
 rw[TrS]at h;obtain⟨uu,J2,css,e,_,_,_,_,hx,hl⟩:=h;simp only[Value.agg.injEq,trC,gU,dA,rV]at e;obtain⟨-,-,-,-,rfl⟩:=e;have j5:=sF hl;have de:=aEb hl;obtain⟨q1,q2⟩:=rL hl hj hO;obtain⟨g,o,c,e2,hS,hc⟩:=hx.cell hO;simp only[eJ]at e2;obtain⟨rfl,-,-⟩:=e2;generalize xs[j]=y at q2 ⊢;have q3:=q2;obtain⟨k',n',t',qg,EY⟩:=y;rw[TrS]at q3;obtain⟨NN,Kc,LN,e3,_,_,_,r1,r2,_⟩:=q3;obtain⟨_,_,pa,pc,rfl,_⟩:=r1;obtain⟨_,_,qa,qc,rfl,_⟩:=r2;have e4:css[j]=trC k' n' t' (.slice pa qg.length pc) (.slice qa EY.length qc):=by simpa using e3
 refine⟨g,o,k',n',t',pa,qa,qg.length,pc,EY.length,qc,rfl,fun i u hu=> ?_,by rw[<-e4];exact q2⟩;have hi:i<5:=by have:=(List.getElem?_eq_some_iff.1 hu).1;simpa using this
 have hf:=zP 5 css j i css[j] de (List.getElem?_eq_getElem hO) hi;rw[show o+j*5+i=o+(j*5+i) by omega];refine hc _ u ?_;rw[hf,e4];simpa using hu
theorem TrS.key {S:Nat->Prop} {w:World} {k n k9 n9:Int} {t t9:ByteArray} {ks:List ByteArray} {xs:List Tr} {xv:Value} {kd:Option Addr} {lk rh:Nat} (h:TrS S w (.nd k n t ks xs) (.agg (trC k9 n9 t9 (.slice kd lk rh) xv))) {j:Nat} (hj:j<ks.length):
  ∃(bb oo:Nat),kd=some ⟨bb,oo,none⟩/\w.cell? ⟨bb,oo+j,none⟩=some (.string ks[j]):=by
 rw[TrS]at h;obtain⟨uu,J2,css,e,_,_,_,hk,_,_⟩:=h;simp only[Value.agg.injEq,trC,gU,dA,rV]at e;obtain⟨-,-,-,rfl,-⟩:=e;obtain⟨g,o,c,e2,hS,hc⟩:=hk.cell hO;simp only[eJ]at e2;obtain⟨rfl,-,-⟩:=e2;exact⟨g,o,rfl,hc j _ uHw⟩
def WrF (fn:Nat) (a:Tr):Prop:=∀(C B b:Nat) (l:List UInt8) (v:Value) (w:World),yQ C w->C<=B->B<=w.heap.size->Bld B b l w->TrS (fun g=>g≠b) w a v->fQ a->l.length+(eY a).length<=140737488355328->
 Calls Tryz.prog fn #[.pointer (some ⟨b,0,none⟩),v] w fun e w'=>e=.returned (.tuple #[])/\Bld B b (l++eY a) w'/\mX B b w w'
theorem aMU (a:Tr) (hP:4<=a.k->WrF 75 a):WrF 42 a:=by
 intro C B b l v w hc I6 hB bf hv ha an;obtain⟨k,n,t,ks,xs⟩:=a;have Ti:=hv;rw[TrS]at Ti;obtain⟨kv,xv,css,rfl,ht,uh,hn,_,_,_⟩:=Ti;have C5:=ha.kind;have ju:=(fO.1 ha.2).1;simp only[Tr.k,Tr.t]at C5 hP ju;obtain⟨w1,ag⟩:∃w1,w.alloc (.cells (trC k n t kv xv) 28)=w1:=⟨_,rfl⟩
 obtain⟨af,ai,al⟩:=fH ag;have tu:w1.cell? ⟨w.heap.size,0,none⟩=some (.int .i64 k):=aG ai rfl;have Ah:w1.cell? ⟨w.heap.size,1,none⟩=some (.int .i64 n):=aG ai rfl;have ic:w1.cell? ⟨w.heap.size,2,none⟩=some (.string t):=aG ai rfl;have HX1:=iH ai;have HB1:=iH af;have jt:=iH (bf.later af);have j8:=iH hB;have bd:=iH (hc.later af hO);clear af ai al bf hB uh ht;by_cases c0:k=0
 case pos=>
  subst c0;have HE:Hid (eY (.nd 0 n t ks xs)=[110,117,108,108]):=by show _=_;rw[eY];rw[if_pos rfl]
  rw[HE.out]at an;have oy:Hid (∀V,Below w1.heap.size w1 V->Calls Tryz.prog 59 #[.pointer (some ⟨b,0,none⟩),.string ⟨#[110,117,108,108]⟩] V fun e w'=>(∃m:Nat,e=.returned (.tuple #[.int .i64 (m:Int),.nilIface]))/\Bld B b (l++[110,117,108,108]) w'/\mX B b V w'):=fun V hV=>rB B b l [110,117,108,108] V (jt.out.later hV) (by exact an) uDw
  clear an hc hv ha hP C5 ju hn Ah ic I6;go_enter Tryz.func42,Tryz.ntmps42;go_upto_region 1 with fail
  clear ag;go_wp2_with (go_at_call 59;(with_reducible refine(oy.out _ (bB _ _)).mono ?_);rintro r V2 ⟨⟨m,rfl⟩,bf,ef⟩;have s6:=iH bf;have wj:=iH ef;clear bf ef)
  go_end0;exact⟨rfl,by rw[HE.out];exact s6.out,pV (aAY HB1.out j8.out) wj.out⟩
 by_cases c1:k=1
 case pos=>
  subst c1;have HE:Hid (eY (.nd 1 n t ks xs)=(if n=1 then[116,114,117,101]else[102,97,108,115,101])):=by show _=_;rw[eY];rw[if_neg uAv,if_pos rfl]
  rw[HE.out]at an;obtain⟨z,hz⟩:∃z:List UInt8,z=(if n=1 then[116,114,117,101]else[102,97,108,115,101]):=⟨_,rfl⟩
  have Z9:Hid (∀W,Calls Tryz.prog 72 #[.bool (n==1)] W fun e w'=>e=.returned (.string ⟨z.toArray⟩)/\W=w'):=fun W=>by
   have h:=aMZ (n==1) W;rw[hz];simpa using h
  rw[<-hz]at HE an;clear hz;have oy:Hid (∀V,Below w1.heap.size w1 V->Calls Tryz.prog 59 #[.pointer (some ⟨b,0,none⟩),.string ⟨z.toArray⟩] V fun e w'=>(∃m:Nat,e=.returned (.tuple #[.int .i64 (m:Int),.nilIface]))/\Bld B b (l++z) w'/\mX B b V w'):=fun V hV=>rB B b l z V (jt.out.later hV) (by exact an) uDw
  clear an hc hv ha hP C5 ju ic hn I6;go_enter Tryz.func42,Tryz.ntmps42;go_upto_region 1 with fail
  clear ag;go_wp2_with (first|(go_at_call 72;(with_reducible refine(Z9.out _).mono ?_);rintro r V ⟨rfl,rfl⟩;have fh:Hid (Below w1.heap.size w1 w1):=bB _ _)|(go_at_call 59;(with_reducible refine(oy.out _ fh.out).mono ?_);rintro r V2 ⟨⟨m,rfl⟩,bf,ef⟩;have s6:=iH bf;have wj:=iH ef;clear bf ef))
  exact Ac8
 by_cases c2:k=2
 case pos=>
  subst c2;have HE:Hid (eY (.nd 2 n t ks xs)=Lib.itoa n):=by show _=_;rw[eY];rw[if_neg uAv,if_neg uAv,if_pos rfl]
  rw[HE.out]at an;have Kg:=iH (aCt n w1 hn bd.out.tab);obtain⟨z,hz⟩:∃z,z=Lib.itoa n:=⟨_,rfl⟩
  rw[<-hz]at HE Kg an;clear hz;have oy:Hid (∀V,Below w1.heap.size w1 V->Calls Tryz.prog 59 #[.pointer (some ⟨b,0,none⟩),.string ⟨z.toArray⟩] V fun e w'=>(∃m:Nat,e=.returned (.tuple #[.int .i64 (m:Int),.nilIface]))/\Bld B b (l++z) w'/\mX B b V w'):=fun V hV=>rB B b l z V (jt.out.later hV) (by exact an) uDw
  clear an hc hv ha hP C5 ju ic hn I6;go_enter Tryz.func42,Tryz.ntmps42;go_upto_region 1 with fail
  clear ag;go_wp2_with (first|(go_at_call 73;(with_reducible refine Kg.out.mono ?_);rintro r V ⟨rfl,hb⟩;have fh:=iH hb;clear hb)|(go_at_call 59;(with_reducible refine(oy.out _ fh.out).mono ?_);rintro r V2 ⟨⟨m,rfl⟩,bf,ef⟩;have s6:=iH bf;have wj:=iH ef;clear bf ef))
  exact Ac8
 by_cases c3:k=3
 case pos=>
  subst c3;have HE:Hid (eY (.nd 3 n t ks xs)=gI (kb t)):=by show _=_;rw[eY];rw[if_neg uAv,if_neg uAv,if_neg uAv,if_pos rfl]
  rw[HE.out]at an;have Nv:=iH (aFF t w1 ju bd.out.esc);obtain⟨z,hz⟩:∃z,z=gI (kb t):=⟨_,rfl⟩
  rw[show gI t.data.toList=z from hz.symm]at Nv;rw[<-hz]at HE an;clear hz;have oy:Hid (∀V,Below w1.heap.size w1 V->Calls Tryz.prog 59 #[.pointer (some ⟨b,0,none⟩),.string ⟨z.toArray⟩] V fun e w'=>(∃m:Nat,e=.returned (.tuple #[.int .i64 (m:Int),.nilIface]))/\Bld B b (l++z) w'/\mX B b V w'):=fun V hV=>rB B b l z V (jt.out.later hV) (by exact an) uDw
  clear an hc hv ha hP C5 ju Ah hn I6;go_enter Tryz.func42,Tryz.ntmps42;go_upto_region 1 with fail
  clear ag;go_wp2_with (first|(go_at_call 74;(with_reducible refine Nv.out.mono ?_);rintro r V ⟨rfl,hb⟩;have fh:=iH hb;clear hb)|(go_at_call 59;(with_reducible refine(oy.out _ fh.out).mono ?_);rintro r V2 ⟨⟨m,rfl⟩,bf,ef⟩;have s6:=iH bf;have wj:=iH ef;clear bf ef))
  exact Ac8
 have wy:4<=k:=by omega
 have e0:(k==0)=false:=aE.2 c0;have e1:(k==1)=false:=aE.2 c1;have e2:(k==2)=false:=aE.2 c2;have e3:(k==3)=false:=aE.2 c3;have LO:=iH (hP wy C B b l _ w1 bd.out I6 uPv jt.out (hv.later HB1.out) ha an);clear hc hv ha hP C5 ju hn I6 Ah ic wy c0 c1 c2 c3 an;go_enter Tryz.func42,Tryz.ntmps42;go_upto_region 1 with fail
 clear ag;go_wp2_with (first
  |(refine aW rfl 28 _ rfl w.heap.size rfl 28 _ _ _ HX1.out Tryz.underlying28 rfl pN ?_)
  |(go_at_call 75;(with_reducible refine LO.out.mono ?_);rintro r V ⟨rfl,bf,ef⟩;have s6:=iH bf;have wj:=iH ef;clear bf ef))
 go_end0;exact⟨rfl,s6.out,pV (aAY HB1.out j8.out) wj.out⟩
theorem aAw {W w:World} {a b c d:Array Value} {A B C D:TypeId} (e:(((W.alloc (.cells a A)).alloc (.cells b B)).alloc (.cells c C)).alloc (.cells d D)=w):
  Below W.heap.size W w/\w.heap[W.heap.size]? =some (.cells a A (0,0))/\w.heap[W.heap.size+1]? =some (.cells b B (0,0))/\w.heap[W.heap.size+2]? =some (.cells c C (0,0))/\w.heap[W.heap.size+3]? =some (.cells d D (0,0))/\w.heap.size=W.heap.size+4:=by
 obtain⟨w3,h3⟩:∃w3,((W.alloc (.cells a A)).alloc (.cells b B)).alloc (.cells c C)=w3:=⟨_,rfl⟩
 obtain⟨k1,k2,k3,k4,k5⟩:=dF h3;rw[h3]at e;obtain⟨l1,l2,l3⟩:=fH e;rw[k5]at l2 l3;have hk:=fun(g:Nat) (o:Obj) (h:w3.heap[g]? =some o)=>(l1.block g (gZ h)).trans h
 exact⟨tW k1 l1,hk _ _ k2,hk _ _ k3,hk _ _ k4,l2,l3⟩
theorem qU {P:Program} {fn:Func} {p q r:Tmp} {ty:TypeId} (h:fn.results=#[.cell p ty,.cell q 3,.cell r 45]) (tmps:Array Value) (w:World) (g g' g2:Nat) (t:TypeId) (cs:Array Value) (fr:Nat×Nat) (d:TypeDesc) (v u:Value)
  (hp:tmps.getD p undef=.pointer (some ⟨g,0,none⟩)) (hg:w.heap[g]? =some (.cells cs t fr)) (hu:P.underlying ty=some d) (hd:(match d with| .struct _| .array _ _=>true|_=>false)=true) (hi:(P.info? ty).map (·.size)=some cs.size)
  (hq:tmps.getD q undef=.pointer (some ⟨g',0,none⟩)) (kx:(loadVar 3 ⟨g',0,none⟩).run P w=.ok v w)
  (hr:tmps.getD r undef=.pointer (some ⟨g2,0,none⟩)) (jv:(loadVar 45 ⟨g2,0,none⟩).run P w=.ok u w):
  (results fn tmps).run P w=.ok (.tuple #[.agg cs,v,u]) w:=by
 have wt:tmps[p]?.getD undef=.pointer (some ⟨g,0,none⟩):=by simpa using hp
 have Om:tmps[q]?.getD undef=.pointer (some ⟨g',0,none⟩):=by simpa using hq
 have o9:tmps[r]?.getD undef=.pointer (some ⟨g2,0,none⟩):=by simpa using hr
 simp[results,h,wt,Om,o9,asAddr,run_loadVar_row w g t ty cs fr d hg hu hd hi,kx,jv]
theorem aFY (w:World) (g:Nat) (v:Value) (h:w.heap[g]? =some (.cells #[v] 3 (0,0))):(loadVar 3 ⟨g,0,none⟩).run Tryz.prog w=.ok v w:=by
 have hc:w.cell? ⟨g,0,none⟩=some v:=aG h rfl;go_simp
theorem aFZ (w:World) (g:Nat) (v:Value) (h:w.heap[g]? =some (.cells #[v] 45 (0,0))):(loadVar 45 ⟨g,0,none⟩).run Tryz.prog w=.ok v w:=by
 have hc:w.cell? ⟨g,0,none⟩=some v:=aG h rfl;go_simp
theorem vS {P:Program} {fn:Func} {t t':Array Value} {R:Ending->World->Prop} (h:results fn t=results fn t'):∀(ds:List Deferred) (u:FrameMode) (w:World),Leaves P fn t R ds u w->Leaves P fn t' R ds u w
 |[],.returning,w,⟨v,h1,h2⟩=>⟨v,by rw[<-h];exact h1,h2⟩
 |[],.panicking _,_,h2=>h2
 |[],.run,_,h2=>h2
 |d::ds,u,w,⟨h1,fv,cap,f,args,h2,h3,h4⟩=>⟨h1,fv,cap,f,args,h2,h3,h4.mono fun e u' w' h5=>by
  cases e with
  |returned v=>exact vS h ds _ _ h5
  |panicked c=>exact vS h ds _ _ h5
  |outgrown=>exact h5⟩
theorem aBW (R:Ending->World->Prop) (c:List PanicEntry) (a:Act) (w:World) (i:Nat) (v:Value) (hi:i≠6/\i≠7/\i≠8) (h:bodyPostD Tryz.prog Tryz.f27 R (.panic c) (a.put (some i) v) w):bodyPostD Tryz.prog Tryz.f27 R (.panic c) a w:=by
 refine vS ?_ _ _ _ h;have e:∀j,j≠i->(a.tmps.setIfInBounds i v)[j]?.getD undef=a.tmps[j]?.getD undef:=fun j hj=>by
  rw[Array.getElem?_setIfInBounds_ne (kX hj)]
 show results _ (a.tmps.setIfInBounds i v)=_;unfold results;simp only[Tryz.f27];simp[e 6 (kX hi.1),e 7 (kX hi.2.1),e 8 (kX hi.2.2)]
theorem aMY (s:Nat) (bb:Int) (x:ByteArray) (a:Int) (w:World) (q:Nat×Int) (C4:q.2≠0)
  (hn:∀W rb,Below w.heap.size w W->w.heap.size<=rb->W.heap[rb]? =some (.cells (rdC s bb x a 0) 103 (0,0))->Calls Tryz.prog 54 #[.pointer (some ⟨rb,0,none⟩)] W (Left W rb q)):
  Calls Tryz.prog 27 #[.agg #[.int .u64 (s:Int),.int .i64 bb],.string x,.int .i64 a] w fun e w'=>∃E,e=.returned (.tuple #[.agg #[.int .i64 0,.int .i64 0,.string ⟨#[]⟩,.pointer none],.int .i64 0,E])/\fR w.heap.size w' E q.2 (q.1:Int)/\Below w.heap.size w w':=by
 obtain⟨w1,ag⟩:∃w1,(((w.alloc (.cells #[.int .u64 (s:Int),.int .i64 bb] 24)).alloc (.cells #[.int .i64 0,.int .i64 0,.string ⟨#[]⟩,.pointer none] 37)).alloc (.cells #[.int .i64 0] 3)).alloc (.cells #[.nilIface] 45)=w1:=⟨_,rfl⟩
 obtain⟨af,dr,qb,qx,bu,al⟩:=aAw ag;have HB1:=iH af;have bd:=iH dr;have rf:=iH qb;have ve:=iH qx;have HR1:=iH bu;have HS1:Hid (w1.heap.size=w.heap.size+4):=al;have EZ:∀(fn:Fn) (first cap:Array Value) (w:World),(Instr.makeFunc fn first cap).run Tryz.prog w=.ok (.func fn first cap) w:=fun _ _ _ _=>rfl
 clear af dr qb qx bu al;have D4:=iH C4;have HN:=iH hn;clear C4 hn;go_enter_defers Tryz.func27,Tryz.ntmps27
 go_upto_region 1 with fail
 clear ag;go_upto_region 3 with(first
  |(refine aW rfl 24 _ rfl w.heap.size rfl 24 _ _ _ bd.out Tryz.underlying24 rfl gQ ?_)
  |(refine aV rfl 103 _ _ rfl w1.heap.size (rdC s bb x a 0) rfl rfl 103 _ (aC _ _) uAu rfl uAx ?_;intro w2 h2 k2))
 have aq:Hid (Below w1.heap.size w1 w2):=(Below.newly' w1 _).trans (k2.below (aA _));have uy:=iH (kW aq.out rf.out);have El:=iH (kW aq.out ve.out);have gl:=iH (kW aq.out HR1.out);have ft:=iH h2;have HS2:Hid (w2.heap.size=w1.heap.size+1):=by show _=_;rw[k2.size];simp
 obtain⟨rb,we⟩:∃rb,rb=w1.heap.size:=⟨_,rfl⟩
 have ry:Hid (rb=w.heap.size+4):=we.trans HS1.out;have cd:Hid (w2.heap.size=w.heap.size+5):=by have h1:=HS1.out;have h2:=HS2.out;show _=_;omega
 have av:Hid (Below w.heap.size w w2):=tW HB1.out aq.out;rw[<-we]at ft ⊢;clear we h2 k2 rf ve HR1 bd HB1 aq HS1 HS2;go_wp2_with (go_at_call 54;(with_reducible refine(HN.out _ rb av.out uHz ft.out).mono ?_);rintro r V ⟨E,rfl,he,hg⟩;have HE:=iH he;have HG:=iH hg;clear he hg)
 have Cf:=iH (((HG.out).block _ uBz (fun e=>by have:=aH e;have:=ry.out;omega)).trans uy.out);have Pb:=iH (((HG.out).block _ uBz (fun e=>by have:=aH e;have:=ry.out;omega)).trans El.out);have vm:=iH (((HG.out).block _ uBz (fun e=>by have:=aH e;have:=ry.out;omega)).trans gl.out);refine leaves_cons (f:=52) (args:=#[.pointer (some ⟨w.heap.size+1,0,none⟩),.pointer (some ⟨w.heap.size+2,0,none⟩),.pointer (some ⟨w.heap.size+3,0,none⟩)]) uAy (by simp[go_sem]) ?_;refine(uR (w.heap.size+1) (w.heap.size+2) (w.heap.size+3) (w.heap.size+4) E q.2 (q.1:Int) _ ⟨0,0,⟨#[]⟩,none⟩ _ _ Cf.out Pb.out vm.out ((HE.out).low uBz) D4.out hO hO hO).mono ?_;rintro e u' wF ⟨rfl,rfl,hp,hq,hr,hb,he⟩;refine⟨_,qU (p:=6) (q:=7) (r:=8) rfl _ wF (w.heap.size+1) (w.heap.size+2) (w.heap.size+3) _ _ _ _ _ _ rfl hp Tryz.underlying37 rfl aF rfl (aFY _ _ _ hq) rfl (aFZ _ _ _ hr),E,rfl,he.low hO,?_⟩;exact(av.out.grown (HG.out) av.out.size (fun k e=>by have:=aH e;have:=ry.out;omega)).trans (hb.mono hO)
theorem aMX (s:Nat) (bb:Int) (x:ByteArray) (a:Int) (w:World) (t:Tok) (q:Nat×Int) (C4:q.2≠0)
  (hn:∀W rb,Below w.heap.size w W->w.heap.size<=rb->W.heap[rb]? =some (.cells (rdC s bb x a 0) 103 (0,0))->Calls Tryz.prog 54 #[.pointer (some ⟨rb,0,none⟩)] W (fun e w'=>e=.returned (.agg (bN t))/\dG w.heap.size s bb x w' rb t.e 0/\W.grownBy w' (some rb)))
  (hv:∀W rb,dG w.heap.size s bb x W rb t.e 0->Calls Tryz.prog 53 #[.pointer (some ⟨rb,0,none⟩),.agg (bN t),.int .i64 1] W (Left W rb q)):
  Calls Tryz.prog 27 #[.agg #[.int .u64 (s:Int),.int .i64 bb],.string x,.int .i64 a] w fun e w'=>∃E,e=.returned (.tuple #[.agg #[.int .i64 0,.int .i64 0,.string ⟨#[]⟩,.pointer none],.int .i64 0,E])/\fR w.heap.size w' E q.2 (q.1:Int)/\Below w.heap.size w w':=by
 obtain⟨w1,ag⟩:∃w1,(((w.alloc (.cells #[.int .u64 (s:Int),.int .i64 bb] 24)).alloc (.cells #[.int .i64 0,.int .i64 0,.string ⟨#[]⟩,.pointer none] 37)).alloc (.cells #[.int .i64 0] 3)).alloc (.cells #[.nilIface] 45)=w1:=⟨_,rfl⟩
 obtain⟨af,dr,qb,qx,bu,al⟩:=aAw ag;have HB1:=iH af;have bd:=iH dr;have rf:=iH qb;have ve:=iH qx;have HR1:=iH bu;have HS1:Hid (w1.heap.size=w.heap.size+4):=al;have EZ:∀(fn:Fn) (first cap:Array Value) (w:World),(Instr.makeFunc fn first cap).run Tryz.prog w=.ok (.func fn first cap) w:=fun _ _ _ _=>rfl
 clear af dr qb qx bu al;have D4:=iH C4;have HN:=iH hn;have HV:=iH hv;clear C4 hn hv;go_enter_defers Tryz.func27,Tryz.ntmps27
 go_upto_region 1 with fail
 clear ag;go_upto_region 3 with(first
  |(refine aW rfl 24 _ rfl w.heap.size rfl 24 _ _ _ bd.out Tryz.underlying24 rfl gQ ?_)
  |(refine aV rfl 103 _ _ rfl w1.heap.size (rdC s bb x a 0) rfl rfl 103 _ (aC _ _) uAu rfl uAx ?_;intro w2 h2 k2))
 have aq:Hid (Below w1.heap.size w1 w2):=(Below.newly' w1 _).trans (k2.below (aA _));have uy:=iH (kW aq.out rf.out);have El:=iH (kW aq.out ve.out);have gl:=iH (kW aq.out HR1.out);have ft:=iH h2;have HS2:Hid (w2.heap.size=w1.heap.size+1):=by show _=_;rw[k2.size];simp
 obtain⟨rb,we⟩:∃rb,rb=w1.heap.size:=⟨_,rfl⟩
 have ry:Hid (rb=w.heap.size+4):=we.trans HS1.out;have cd:Hid (w2.heap.size=w.heap.size+5):=by have h1:=HS1.out;have h2:=HS2.out;show _=_;omega
 have av:Hid (Below w.heap.size w w2):=tW HB1.out aq.out;rw[<-we]at ft ⊢;clear we h2 k2 rf ve HR1 bd HB1 aq HS1 HS2;go_wp2_with (first
  |(go_at_call 54;(with_reducible refine(HN.out _ rb av.out uHz ft.out).mono ?_);rintro r V ⟨rfl,dm,hg⟩;have vm:=iH dm;have HG:=iH hg;clear dm hg)
  |(go_at_call 53;(with_reducible refine(HV.out _ rb vm.out).mono ?_);rintro r V2 ⟨E,rfl,he,hg⟩;have HE:=iH he;have HG2:=iH hg;clear he hg))
 have je:Hid (w2.grownBy V2 (some rb)):=bD HG.out HG2.out;have Rq:Hid (fR w2.heap.size V2 E q.2 (q.1:Int)):=HE.out.low HG.out.size;clear vm;have Cf:=iH (((je.out).block _ uBz (fun e=>by have:=aH e;have:=ry.out;omega)).trans uy.out);have Pb:=iH (((je.out).block _ uBz (fun e=>by have:=aH e;have:=ry.out;omega)).trans El.out);have vm:=iH (((je.out).block _ uBz (fun e=>by have:=aH e;have:=ry.out;omega)).trans gl.out);refine leaves_cons (f:=52) (args:=#[.pointer (some ⟨w.heap.size+1,0,none⟩),.pointer (some ⟨w.heap.size+2,0,none⟩),.pointer (some ⟨w.heap.size+3,0,none⟩)]) uAy (by simp[go_sem]) ?_;refine(uR (w.heap.size+1) (w.heap.size+2) (w.heap.size+3) (w.heap.size+4) E q.2 (q.1:Int) _ ⟨0,0,⟨#[]⟩,none⟩ _ _ Cf.out Pb.out vm.out ((Rq.out).low uBz) D4.out hO hO hO).mono ?_;rintro e u' wF ⟨rfl,rfl,hp,hq,hr,hb,he⟩;refine⟨_,qU (p:=6) (q:=7) (r:=8) rfl _ wF (w.heap.size+1) (w.heap.size+2) (w.heap.size+3) _ _ _ _ _ _ rfl hp Tryz.underlying37 rfl aF rfl (aFY _ _ _ hq) rfl (aFZ _ _ _ hr),E,rfl,he.low hO,?_⟩;exact(av.out.grown (je.out) av.out.size (fun k e=>by have:=aH e;have:=ry.out;omega)).trans (hb.mono hO)
theorem aMW (s:Nat) (bb:Int) (x:ByteArray) (a:Int) (w:World) (t:Tok) (R:Rd)
  (hn:∀W rb,Below w.heap.size w W->w.heap.size<=rb->W.heap[rb]? =some (.cells (rdC s bb x a 0) 103 (0,0))->Calls Tryz.prog 54 #[.pointer (some ⟨rb,0,none⟩)] W (fun e w'=>e=.returned (.agg (bN t))/\dG w.heap.size s bb x w' rb t.e 0/\W.grownBy w' (some rb)))
  (hv:∀W rb,dG w.heap.size s bb x W rb t.e 0->Calls Tryz.prog 53 #[.pointer (some ⟨rb,0,none⟩),.agg (bN t),.int .i64 1] W (aF4 w.heap.size s bb x (fun _=>False) W rb (.ok R))):
  Calls Tryz.prog 27 #[.agg #[.int .u64 (s:Int),.int .i64 bb],.string x,.int .i64 a] w fun e w'=>∃y,e=.returned (.tuple #[.agg (aL y),.int .i64 (R.e:Int),.nilIface])/\VAt (fun g=>w.heap.size<=g) w' (cP R.t) y/\Below w.heap.size w w':=by
 obtain⟨w1,ag⟩:∃w1,(((w.alloc (.cells #[.int .u64 (s:Int),.int .i64 bb] 24)).alloc (.cells #[.int .i64 0,.int .i64 0,.string ⟨#[]⟩,.pointer none] 37)).alloc (.cells #[.int .i64 0] 3)).alloc (.cells #[.nilIface] 45)=w1:=⟨_,rfl⟩
 obtain⟨af,dr,qb,qx,bu,al⟩:=aAw ag;have HB1:=iH af;have bd:=iH dr;have rf:=iH qb;have ve:=iH qx;have HR1:=iH bu;have HS1:Hid (w1.heap.size=w.heap.size+4):=al;have EZ:∀(fn:Fn) (first cap:Array Value) (w:World),(Instr.makeFunc fn first cap).run Tryz.prog w=.ok (.func fn first cap) w:=fun _ _ _ _=>rfl
 clear af dr qb qx bu al;have HN:=iH hn;have HV:=iH hv;clear hn hv;go_enter_defers Tryz.func27,Tryz.ntmps27
 go_upto_region 1 with fail
 clear ag;go_upto_region 3 with(first
  |(refine aW rfl 24 _ rfl w.heap.size rfl 24 _ _ _ bd.out Tryz.underlying24 rfl gQ ?_)
  |(refine aV rfl 103 _ _ rfl w1.heap.size (rdC s bb x a 0) rfl rfl 103 _ (aC _ _) uAu rfl uAx ?_;intro w2 h2 k2))
 have aq:Hid (Below w1.heap.size w1 w2):=(Below.newly' w1 _).trans (k2.below (aA _));have uy:=iH (kW aq.out rf.out);have El:=iH (kW aq.out ve.out);have gl:=iH (kW aq.out HR1.out);have ft:=iH h2;have HS2:Hid (w2.heap.size=w1.heap.size+1):=by show _=_;rw[k2.size];simp
 obtain⟨rb,we⟩:∃rb,rb=w1.heap.size:=⟨_,rfl⟩
 have ry:Hid (rb=w.heap.size+4):=we.trans HS1.out;have cd:Hid (w2.heap.size=w.heap.size+5):=by have h1:=HS1.out;have h2:=HS2.out;show _=_;omega
 have av:Hid (Below w.heap.size w w2):=tW HB1.out aq.out;rw[<-we]at ft ⊢;clear we h2 k2 rf ve HR1 bd HB1 aq HS1 HS2;go_upto_region 4 with(first
  |(go_at_call 54;(with_reducible refine(HN.out _ rb av.out uHz ft.out).mono ?_);rintro r V ⟨rfl,dm,hg⟩;have vm:=iH dm;have HG:=iH hg;clear dm hg)
  |(go_at_call 53;(with_reducible refine(HV.out _ rb vm.out).mono ?_);rintro r V2 ⟨y,rfl,hy,dm,hg⟩;have HY:=iH hy;have D3:=iH dm;have je:Hid (w2.grownBy V2 (some rb)):=bD HG.out hg;have AA:Hid (w2.heap.size<=V.heap.size):=HG.out.size;have Cf:=iH (((je.out).block _ uBz (fun e=>by have:=aH e;have:=ry.out;omega)).trans uy.out);have Pb:=iH (((je.out).block _ uBz (fun e=>by have:=aH e;have:=ry.out;omega)).trans El.out);have FA:=iH (((je.out).block _ uBz (fun e=>by have:=aH e;have:=ry.out;omega)).trans gl.out);clear hy dm hg)
  |(refine aV rfl 37 _ _ rfl (w.heap.size+1) (aL y) rfl rfl 37 _ Cf.out aF rfl (cE y) ?_;intro w5 h5 k5))
 have Dg:=iH h5;have xh:=iH (k5.other Pb.out hO);have nu:=iH (k5.other FA.out hO);have mz:=iH (k5.other D3.out.2.2 uHz);have gk:Hid (VAt (fun g=>w.heap.size+5<=g) w5 (cP R.t) y):=HY.out.imp (Kq.only k5 fun h=>by
  have h1:=AA.out;have h2:=cd.out;rcases h with h|h
  ·exact h
  ·omega) fun g h _=>by
  have h1:=AA.out;have h2:=cd.out;rcases h with h|h
  ·exact absurd h uAy
  ·omega
 have bp:Hid (Below w.heap.size w w5):=(av.out.grown je.out av.out.size (fun k e=>by have:=aH e;have:=ry.out;omega)).trans (k5.below hO);have sa:Hid (w.heap.size+5<=w5.heap.size):=by have h1:=k5.size;have h2:=je.out.size;have h3:=cd.out;show _<=_;omega
 clear h5 k5 Cf Pb FA D3 HY vm HG je AA;refine bO (S:=(fun V=>V.heap[w.heap.size+1]? =some (.cells (aL y) 37 (0,0))/\V.cell? ⟨rb,3,none⟩=some (.int .i64 (R.e:Int)))) [] uAu uLv (fun ab=> ?_);obtain⟨wd,j9⟩:∃wd,wd=w5.drew:=⟨_,rfl⟩
 have sh:Below w5.heap.size w5 wd:=by rw[j9];exact aY w5
 rw[<-j9]at ab ⊢;clear j9;replace Dg:=iH (kW sh Dg.out);replace mz:=iH (kW sh mz.out);have LP:=iH (kW sh xh.out);have LQ:=iH (kW sh nu.out);have LR:=iH (gk.out.later sh);have Nm:Hid (Below w.heap.size w wd):=tW bp.out sh;have LS:=sh.size;have NO:Hid (w.heap.size+5<=wd.heap.size):=by have:=sa.out;show _<=_;omega
 clear sh LS;refine kG (i:=0) (oi:=⟨some 17,_,_,_,_,_⟩) (v:=_) rfl uAu uAu uAu uAu (fun _ _ _ h=>aBW _ _ _ _ 17 _ uAv h) (aJ uAz 37 _ rfl (w.heap.size+1) rfl (aL y) 37 (0,0) _ (fun w hw=>hw.1) Tryz.underlying37 rfl uCu) uCw ?_;(try simp only[pq]);refine kG (i:=1) (oi:=⟨some 18,_,_,_,_,_⟩) (v:=?vg2_1) rfl uAu uAu uAu uAu (fun _ _ _ h=>aBW _ _ _ _ 18 _ uAv h) (Or.inl ⟨by rfl,?hg2_1⟩) uCw ?rg2_1
 case hg2_1=>(intro w jy;(try dsimp only at jy);first|(go_simp;done)|(go_simp;with_reducible rfl))
 (try simp only[pq]);refine kG (i:=2) (oi:=⟨some 19,_,_,_,_,_⟩) (v:=.int .i64 (R.e:Int)) rfl uAu uAu uAu uAu (fun _ _ _ h=>aBW _ _ _ _ 19 _ uAv h) (Or.inl ⟨by rfl,?hg2_2⟩) uCw ?rg2_2
 case hg2_2=>(intro w jy;(try dsimp only at jy);have h:=jy.2;go_simp)
 (try simp only[pq]);refine tkO 3 none (h:=fun K hK=> ?_);refine eC 37 _ _ rfl (w.heap.size+1) (aL y) rfl rfl 37 _ Dg.out aF rfl (cE y) ?_;intro wA hA kA;replace Dg:=iH hA;replace mz:=iH (kA.other mz.out uHz);refine hK.out _ _ uLv (fun ab=> ?_);clear hK K;(try simp only[pq]);refine tkO 4 none (h:=fun K hK=> ?_);refine rM 3 _ _ rfl (w.heap.size+2) 0 (.int .i64 (R.e:Int)) rfl rfl rfl 3 _ (kA.other LP.out hO) uAy aEG ?_;intro wB hB kB;replace Dg:=iH (kB.other Dg.out hO);replace mz:=iH (kB.other mz.out uHz);refine hK.out _ _ uLv (fun ab=> ?_);clear hK K;(try simp only[pq]);refine tkO 5 none (h:=fun K hK=> ?_);refine rM 45 _ _ rfl (w.heap.size+3) 0 .nilIface rfl rfl rfl 45 _ (kB.other (kA.other LQ.out hO) hO) uAy aEO ?_;intro wC hC kC;replace Dg:=iH (kC.other Dg.out hO);replace mz:=iH (kC.other mz.out uHz);refine hK.out _ _ uLv (fun ab=> ?_);clear hK K;(try simp only[pq]);refine bJ uAu ?_ _;go_wp2_with fail
 refine leaves_cons (f:=52) (args:=#[.pointer (some ⟨w.heap.size+1,0,none⟩),.pointer (some ⟨w.heap.size+2,0,none⟩),.pointer (some ⟨w.heap.size+3,0,none⟩)]) uAy (by simp[go_sem]) ?_;refine(aE2 ⟨w.heap.size+1,0,none⟩ ⟨w.heap.size+2,0,none⟩ ⟨w.heap.size+3,0,none⟩ _).mono ?_;rintro e u' wF ⟨rfl,rfl,rfl⟩;refine⟨_,qU (p:=6) (q:=7) (r:=8) rfl _ _ (w.heap.size+1) (w.heap.size+2) (w.heap.size+3) _ _ _ _ _ _ rfl Dg.out Tryz.underlying37 rfl aF rfl (aFY _ _ _ (kC.other hB hO)) rfl (aFZ _ _ _ hC),y,rfl,?_,?_⟩
 ·exact((LR.out.kq (Kq.only kA fun h=>by omega)).kq (Kq.only kB fun h=>by omega)).imp (Kq.only kC fun h=>by omega) fun g h _=>by omega
 ·exact Nm.out.trans ((kA.below hO).trans ((kB.below hO).trans (kC.below hO)))
theorem aJJ (B s:Nat) (bb:Int) (x:ByteArray) (hx:x.size<=2000000) (hs:s<18446744073709551616) (f:Nat):aJW B s bb x f:=by
 induction f using Nat.strongRecOn with
 |_ f ih=>
  cases f with
  |zero=>intro w rb d b n t _ _ _ _ _ _ hf;exact absurd hf hO
  |succ f=>
   refine aPV B s bb x f hx hs (aPW B s bb x f hx fun k g hk hg=> ?_);have hV:aJW B s bb x g:=ih g hO;rcases hk with rfl|rfl|rfl
   ·exact aPZ B s bb x g hx hV
   ·exact aPY B s bb x g (aQ1 B s bb x g hx hV)
   ·exact aPX B s bb x g (aN0 B s bb x g hx hV)
end Go.Proofs.YthmfgidbcghnfaaGreatDoor
