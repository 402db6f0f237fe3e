import Derived.Test.YthmfgidbcghnfaaGreatDoorQ0
import Derived.Test.YthmfgidbcghnfaaGreatDoorQ17
set_option maxRecDepth 1000000
set_option maxHeartbeats 8000000
set_option linter.unusedSimpArgs false
namespace Go.Proofs.YthmfgidbcghnfaaGreatDoor
open Go.RowKit Go.Extern.Stop Go.Stop Go.Extern
theorem vo_C (t:Addr) (w:World):(ReflectliteValue.unpack (.iface 121 (.pointer (some t)))).run Tryz.prog w
  =.ok (.agg #[.pointer (some ⟨7,121,none⟩),.pointer (some ⟨w.heap.size,0,none⟩),.int .u64 150]) (w.alloc (.cells #[.pointer (some t)] 121)):=by kernel_rfl
theorem ty_C (a:Addr) (w:World):(ReflectliteValue.methodAny (ReflectliteValue.valueError "reflectlite.Value.Type" 0) (fun t _ _ _=>ReflectliteType.toType t) #[.agg #[.pointer (some ⟨7,121,none⟩),.pointer (some a),.int .u64 150]]).run Tryz.prog w
  =.ok (.iface 220 (.agg #[.pointer (some ⟨7,121,none⟩)])) w:=by kernel_rfl
theorem aTq (w:World):((ReflectliteType.abiMethod fun t=>(fun a:Nat=>Value.int IntKind.u8 (a:Int))<$>Rtype.kind t) #[.pointer (some ⟨7,121,none⟩)]).run Tryz.prog w=.ok (.int .u8 22) w:=by kernel_rfl
theorem aTo (w:World):((ReflectliteType.abiMethod fun t=>(fun a:Nat=>Value.int IntKind.u8 (a:Int))<$>Rtype.kind t) #[.pointer (some ⟨7,31,none⟩)]).run Tryz.prog w=.ok (.int .u8 2) w:=by kernel_rfl
theorem aTL (w:World):(ReflectliteType.method ReflectliteType.elem #[.agg #[.pointer (some ⟨7,121,none⟩)]]).run Tryz.prog w=.ok (.iface 220 (.agg #[.pointer (some ⟨7,31,none⟩)])) w:=by kernel_rfl
theorem aTw (w:World):(ReflectliteType.relation "Implements" ReflectliteType.implements_ #[.agg #[.pointer (some ⟨7,31,none⟩)],.iface 220 (.agg #[.pointer (some ⟨7,45,none⟩)])]).run Tryz.prog w=.ok (.bool true) w:=by kernel_rfl
theorem aN9 (w:World):(ReflectliteType.relation "AssignableTo" ReflectliteType.assignableTo #[.agg #[.pointer (some ⟨7,120,none⟩)],.iface 220 (.agg #[.pointer (some ⟨7,31,none⟩)])]).run Tryz.prog w=.ok (.bool false) w:=by kernel_rfl
theorem aRd (a:Addr) (w:World):(ReflectliteValue.parts (.agg #[.pointer (some ⟨7,121,none⟩),.pointer (some a),.int .u64 150])).run Tryz.prog w=.ok (some (121,a,150)) w:=by kernel_rfl
theorem vo_P (t:Addr) (w:World):(ReflectliteValue.unpack (.iface 177 (.pointer (some t)))).run Tryz.prog w
  =.ok (.agg #[.pointer (some ⟨7,177,none⟩),.pointer (some ⟨w.heap.size,0,none⟩),.int .u64 150]) (w.alloc (.cells #[.pointer (some t)] 177)):=by kernel_rfl
theorem ty_P (a:Addr) (w:World):(ReflectliteValue.methodAny (ReflectliteValue.valueError "reflectlite.Value.Type" 0) (fun t _ _ _=>ReflectliteType.toType t) #[.agg #[.pointer (some ⟨7,177,none⟩),.pointer (some a),.int .u64 150]]).run Tryz.prog w
  =.ok (.iface 220 (.agg #[.pointer (some ⟨7,177,none⟩)])) w:=by kernel_rfl
theorem aTp (w:World):((ReflectliteType.abiMethod fun t=>(fun a:Nat=>Value.int IntKind.u8 (a:Int))<$>Rtype.kind t) #[.pointer (some ⟨7,177,none⟩)]).run Tryz.prog w=.ok (.int .u8 22) w:=by kernel_rfl
theorem aTn (w:World):((ReflectliteType.abiMethod fun t=>(fun a:Nat=>Value.int IntKind.u8 (a:Int))<$>Rtype.kind t) #[.pointer (some ⟨7,152,none⟩)]).run Tryz.prog w=.ok (.int .u8 22) w:=by kernel_rfl
theorem aTK (w:World):(ReflectliteType.method ReflectliteType.elem #[.agg #[.pointer (some ⟨7,177,none⟩)]]).run Tryz.prog w=.ok (.iface 220 (.agg #[.pointer (some ⟨7,152,none⟩)])) w:=by kernel_rfl
theorem aTv (w:World):(ReflectliteType.relation "Implements" ReflectliteType.implements_ #[.agg #[.pointer (some ⟨7,152,none⟩)],.iface 220 (.agg #[.pointer (some ⟨7,45,none⟩)])]).run Tryz.prog w=.ok (.bool true) w:=by kernel_rfl
theorem aAG (w:World):(ReflectliteType.relation "AssignableTo" ReflectliteType.assignableTo #[.agg #[.pointer (some ⟨7,120,none⟩)],.iface 220 (.agg #[.pointer (some ⟨7,152,none⟩)])]).run Tryz.prog w=.ok (.bool false) w:=by kernel_rfl
theorem aRc (a:Addr) (w:World):(ReflectliteValue.parts (.agg #[.pointer (some ⟨7,177,none⟩),.pointer (some a),.int .u64 150])).run Tryz.prog w=.ok (some (177,a,150)) w:=by kernel_rfl
theorem aAV (h:Value) (w:World):(Go.method 484 220 (.agg #[h]) "Kind").run Tryz.prog w=.ok (300,h) w:=by kernel_rfl
theorem aAW (h:Value) (w:World):(Go.method 484 220 (.agg #[h]) "Elem").run Tryz.prog w=.ok (319,.agg #[h]) w:=by kernel_rfl
theorem rP (h:Value) (w:World):(Go.method 484 220 (.agg #[h]) "Implements").run Tryz.prog w=.ok (320,.agg #[h]) w:=by kernel_rfl
theorem kV (h:Value) (w:World):(Go.method 484 220 (.agg #[h]) "AssignableTo").run Tryz.prog w=.ok (317,.agg #[h]) w:=by kernel_rfl
theorem yX (v:Value) (w:World):(ReflectliteType.typeOf #[.iface 120 v]).run Tryz.prog w=.ok (.iface 220 (.agg #[.pointer (some ⟨7,120,none⟩)])) w:=by kernel_rfl
theorem aRK (k:ByteArray) (x:Cel):nD [] k x=[(k,x)]:=rfl
theorem aMv (e:Ent) (x:Cel):nD [e] e.1 x=[(e.1,x)]:=by
 simp[nD,nG,rG,iJ]
theorem aP5 {a b:Ent} {M:List Ent} (k:ByteArray) (x:Cel) (h:jX (a::b::M)):∃c d N,nD (a::b::M) k x=c::d::N:=by
 have hl:=aFX h k x;have h2:2<=(nD (a::b::M) k x).length:=by
  rw[hl];split<;>simp
 match nD (a::b::M) k x,h2 with
 |[],h=>simp at h
 |[_],h=>simp at h
 |c::d::N,_=>exact⟨c,d,N,rfl⟩
theorem aTu (L:List Ent) (k:ByteArray) (x:Cel):nD L k x≠[]:=by
 unfold nD;simp
theorem aPc (hs:ByteArray->Nat) (f:Nat) (hW:aDk hs f):aLd hs f:=by
 intro S w L p b k x h hL hn he hT;obtain⟨lv,Hr⟩:∃lv:Nat,lv=13-f:=⟨_,rfl⟩
 unfold aDk at hW;simp only[<-Hr]at hW ⊢;have Aj:=iH hW;have Qx:=iH (aPd hs f);obtain⟨pp,gj⟩:∃pp,pp=p.getD (none,none):=⟨_,rfl⟩
 rw[<-gj];obtain⟨w1,ag⟩:∃w1,(w.alloc (.cells (plc pp) 258)).alloc (.cells #[.pointer none,.pointer none] 258)=w1:=⟨_,rfl⟩
 obtain⟨af,ai,aw,al⟩:=lA ag;have HX1:=iH ai;have bl:=iH aw;have HB1:=iH af;have HS1:=iH al;have HE:=iH he;have Gh:=iH hT;clear Hr hW;rcases L with _|⟨e,_|⟨e2,M⟩⟩
 ·have hp:p=none:=h
  rw[hp]at gj;obtain rfl:pp=(none,none):=gj;clear hp;have Hg:w1.cell? ⟨w.heap.size,0,none⟩=some (.pointer none):=aG ai rfl;have Lg:w1.cell? ⟨w.heap.size,1,none⟩=some (.pointer none):=aG ai rfl;clear hL hn he ai aw af al hT h;unfold pv;go_enter Tryz.func183,Tryz.ntmps183;go_upto_region 3 with fail
  clear ag;go_quiet (fail)
  obtain⟨w2,eh⟩:∃w2,w2=w1.drewN nq:=⟨_,rfl⟩
  have bo:Hid (w2.heap[w.heap.size+1]? =some (.cells #[.pointer none,.pointer none] 258 (0,0))):=by show _=_;rw[eh];exact bl.out
  have aq:Hid (Below w.heap.size w w2):=by show Below _ _ _;rw[eh];exact Below.drewMany HB1.out _
  rw[<-eh];clear eh Hg Lg;go_wp2_with (refine aV rfl 258 _ _ rfl (w.heap.size+1) (plc (some b,none)) rfl rfl 258 _ bo.out dN rfl (gW (some b,none)) ?_;intro w6 h6 k6)
  exact aN (bE rfl _ _ (w.heap.size+1) 258 _ (0,0) _ rfl h6 Tryz.underlying258 rfl dN) rfl ⟨(some b,none),rfl,⟨b,rfl,(HE.out.later (aq.out.trans (k6.below hO))).weak fun _ h=>.inl h⟩,aq.out.trans (k6.below hO)⟩
 ·obtain⟨b',hp,Uh⟩:=h
  rw[hp]at gj;obtain rfl:pp=(some b',none):=gj;clear hp;have Hg:w1.cell? ⟨w.heap.size,0,none⟩=some (.pointer (some ⟨b',0,none⟩)):=aG ai rfl;have Lg:w1.cell? ⟨w.heap.size,1,none⟩=some (.pointer none):=aG ai rfl;have ck:w1.cell? ⟨b,0,none⟩=some (.string k):=by
   obtain⟨_,fr,h⟩:=he.later af;exact aG h rfl
  have BU:w1.cell? ⟨b',0,none⟩=some (.string e.1):=by
   obtain⟨_,fr,h⟩:=Uh.later af;exact aG h rfl
  have ID:=iH Uh;have MR:=iH (And.intro hL hn);clear he Uh ai aw af al hT hL hn;by_cases hk:e.1=k
  ·have ei:(e.1.toList==k.toList)=true:=by rw[hk];simp
   have oz:=iH hk;clear hk;unfold pv;go_enter Tryz.func183,Tryz.ntmps183;go_upto_region 3 with fail
   clear ag;go_quiet (fail)
   obtain⟨w2,eh⟩:∃w2,w2=w1.drewN nq:=⟨_,rfl⟩
   have bo:Hid (w2.heap[w.heap.size+1]? =some (.cells #[.pointer none,.pointer none] 258 (0,0))):=by show _=_;rw[eh];exact bl.out
   have aq:Hid (Below w.heap.size w w2):=by show Below _ _ _;rw[eh];exact Below.drewMany HB1.out _
   rw[<-eh];clear eh Hg Lg ck BU;go_wp2_with (refine aV rfl 258 _ _ rfl (w.heap.size+1) (plc (some b,none)) rfl rfl 258 _ bo.out dN rfl (gW (some b,none)) ?_;intro w6 h6 k6)
   refine aN (bE rfl _ _ (w.heap.size+1) 258 _ (0,0) _ rfl h6 Tryz.underlying258 rfl dN) rfl ⟨(some b,none),rfl,?_,aq.out.trans (k6.below hO)⟩;have ei:=oz.out;subst ei;rw[aMv];exact⟨b,rfl,(HE.out.later (aq.out.trans (k6.below hO))).weak fun _ h=>.inl h⟩
  ·have ei:(e.1.toList==k.toList)=false:=aE.2 fun h=>hk (vU (by rw[dJ,dJ]at h;exact h))
   have oz:=iH hk;clear hk;unfold pv;go_enter Tryz.func183,Tryz.ntmps183;go_upto_region 3 with fail
   clear ag;go_quiet (fail)
   obtain⟨w2,eh⟩:∃w2,w2=w1.drewN nq:=⟨_,rfl⟩
   have bo:Hid (w2.heap[w.heap.size+1]? =some (.cells #[.pointer none,.pointer none] 258 (0,0))):=by show _=_;rw[eh];exact bl.out
   have aq:Hid (Below w.heap.size w w2):=by show Below _ _ _;rw[eh];exact Below.drewMany HB1.out _
   have Hs:Hid (w.heap.size+2<=w2.heap.size):=by show _<=_;rw[eh];exact jU HS1.out.symm
   have Xf:w2.cell? ⟨w.heap.size,0,none⟩=some (.pointer (some ⟨b',0,none⟩)):=by rw[eh];exact Hg
   rw[<-eh];have HA:=iH (Aj.out (fun g=>S g/\g<w.heap.size) w2 [] aNl b' e.1 e.2 (dI.zero _ _ _ _) jX.nil uAy (ID.out.old.later aq.out) (Gh.out.below aq.out));unfold aNl pv at HA;clear eh Hg Lg ck BU;go_wp2_with (first
    |(go_at_call 155;(with_reducible refine HA.out.mono ?_);rintro r w3 ⟨c3,rfl,Dh,au⟩;have av:=iH (tW aq.out au);have HC:=iH (Aj.out _ w3 _ c3 b k x Dh (jX.nil.ins _ _) (by rw[aRK];simp) ((HE.out.old.later av.out).weak (S':=fun g=>(S g/\g<w.heap.size)\/w2.heap.size<=g) (fun _ h=>.inl h)) (Gh.out.below av.out));unfold pv at HC;have dp:=iH ((au.block _ (by have:=Hs.out;omega)).trans bo.out);have na:=iH au.size;clear Dh au)
    |(go_at_call 155;(with_reducible refine HC.out.mono ?_);rintro r w4 ⟨c4,rfl,sj,bh⟩;have bg:=iH (tW av.out bh);have HD:=iH (Qx.out _ w4 _ c4 sj (aTu _ _ _) (Gh.out.below bg.out));have gg:=iH ((bh.block _ (by have:=Hs.out;have:=na.out;omega)).trans dp.out);have pb:=iH bh.size;clear sj bh)
    |(go_at_call 223;(with_reducible refine HD.out.mono ?_);rintro r w5 ⟨p5,rfl,sb,ay⟩;have rp:=iH sb;have bp:=iH (tW bg.out ay);have gk:=iH ((ay.block _ (by have:=Hs.out;have:=na.out;have:=pb.out;omega)).trans gg.out);clear sb ay)
    |(refine aV rfl 258 _ _ rfl (w.heap.size+1) (plc p5) rfl rfl 258 _ gk.out dN rfl (gW p5) ?_;intro w6 h6 k6))
   refine aN (bE rfl _ _ (w.heap.size+1) 258 _ (0,0) _ rfl h6 Tryz.underlying258 rfl dN) rfl ⟨p5,rfl,?_,bp.out.trans (k6.below hO)⟩;have h2:=Hs.out;have h3:=na.out;have h4:=pb.out;exact(rp.out.kp (Kp.only k6 hO)).weak fun g hg=>by
    rcases hg with((hg|hg)|hg)|hg
    ·exact .inl hg.1
    ·exact .inr hO
    ·exact .inr hO
    ·exact .inr hO
 ·obtain⟨g,c,fr,hp,hg,ku,oh⟩:=h
  rw[hp]at gj;obtain rfl:pp=(none,some g):=gj;clear hp;have Ui:g<w.heap.size:=(gZ ku)
  have Lg:w1.cell? ⟨w.heap.size,1,none⟩=some (.pointer (some ⟨g,0,none⟩)):=aG ai rfl;have Qy:w1.heap[g]? =some (.cells c 134 fr):=(af.block _ Ui).trans ku;obtain⟨d1,d2,M2,BV⟩:=aP5 k x hL;have nm:=iH oh.size;have HA:=iH (Aj.out (fun g=>S g/\g<w.heap.size) w1 _ c b k x (oh.old.later af) hL hn (he.old.later af) (hT.below af));unfold pv at HA;have HG:=iH Qy;have W7:=iH BV;clear oh ku Qy he ai aw af al hT hL hn hg BV;unfold pv;go_enter Tryz.func183,Tryz.ntmps183;go_upto_region 3 with(first
   |(refine aW uAz 134 _ rfl g rfl 134 _ _ _ HG.out Tryz.underlying134 rfl (by rw[nm.out];exact iT) ?_)
   |(go_at_call 155;(with_reducible refine HA.out.mono ?_);rintro r w4 ⟨c4,rfl,sj,bh⟩;have bg:=iH (tW HB1.out bh);have HD:=iH (Qx.out _ w4 _ c4 sj (by rw[W7.out];simp) (Gh.out.below bg.out));have gg:=iH ((bh.block _ uBu).trans bl.out);have pb:=iH bh.size;clear sj bh)
   |(go_at_call 223;(with_reducible refine HD.out.mono ?_);rintro r w5 ⟨p5,rfl,sb,ay⟩;have rp:=iH sb;have bp:=iH (tW bg.out ay);have gk:=iH ((ay.block _ (by have:=HS1.out;have:=pb.out;omega)).trans gg.out);clear sb ay)
   |(refine aV rfl 258 _ _ rfl (w.heap.size+1) (plc p5) rfl rfl 258 _ gk.out dN rfl (gW p5) ?_;intro w6 h6 k6))
  refine aN (bE rfl _ _ (w.heap.size+1) 258 _ (0,0) _ rfl h6 Tryz.underlying258 rfl dN) rfl ⟨p5,rfl,?_,bp.out.trans (k6.below hO)⟩;have h2:=HS1.out;have h4:=pb.out;exact(rp.out.kp (Kp.only k6 hO)).weak fun g hg=>by
   rcases hg with(hg|hg)|hg
   ·exact .inl hg.1
   ·exact .inr hO
   ·exact .inr hO
theorem AtR.weak {S S':Nat->Prop} {W:World} {R:Rg Pl} {c:Array Value} (h:AtR S W R c) (hS:∀g,S g->S' g):AtR S' W R c:=by
 obtain⟨v,rfl,h2⟩:=h;exact⟨v,rfl,h2.weak hS⟩
theorem AtR.parts {S:Nat->Prop} {W:World} {R:Rg Pl} {c:Array Value} (h:AtR S W R c):∃(b:Nat) (a:Option Addr) (n m:Nat),c=#[.int .u32 (b:Int),.slice a n m]:=by
 obtain⟨a,n,e⟩:=h.shape;exact⟨_,_,_,_,e⟩
theorem aMy (hs:ByteArray->Nat) (hlt:∀k,hs k<18446744073709551616) (f:Nat) (hf:f<=12) (ih:aLd hs f):aDk hs (f+1):=by
 intro S w L c b k x h hL hn he hT;obtain⟨lv,Hr⟩:∃lv:Nat,lv=12-f:=⟨_,rfl⟩
 have Qn:(13-(f+1):Nat)=lv:=by omega
 have BW:(13-f:Nat)=lv+1:=by omega
 rw[Qn];obtain⟨b0,v,R,rfl,dj,hpl⟩:=h.row;obtain⟨i,hi⟩:∃i,i=jD (hs k) (lv:Int):=⟨_,rfl⟩
 have Cp:i<32:=by rw[hi];exact sZ _ _
 have qi:=iH (fun W=>aEv (hs k) (lv:Int) (hlt k) W);rw[<-hi]at qi;have Ey:=iH (fun W (hb:Below w.heap.size w W)=>aOd W R #[b0,v] i Cp (dj.later hb));obtain⟨bb,rfl⟩:∃bb:Nat,b0=.int .u32 (bb:Int):=by obtain⟨v',e,_⟩:=dj;simp only[gU,dA]at e;exact⟨_,e.1⟩
 obtain⟨va,vn,vc,rfl⟩:∃a n c,v=.slice a n c:=by obtain⟨a,n,e⟩:=dj.shape;simp only[gU,dA]at e;exact⟨_,_,_,e.2.1⟩
 obtain⟨w1,ag⟩:∃w1,(w.alloc (.cells #[.int .u32 (bb:Int),.slice va vn vc,.slice none 0 0] 134)).alloc (.cells #[.int .u32 0,.slice none 0 0,.slice none 0 0] 134)=w1:=⟨_,rfl⟩
 obtain⟨af,ai,aw,al⟩:=lA ag;have HX1:=iH ai;have bl:=iH aw;have HB1:=iH af;have HS1:=iH al;have Gh:=iH hT;obtain⟨po,Ht⟩:∃po,po=(R i).getD (none,none):=⟨_,rfl⟩
 rw[<-Ht]at Ey;have uq:chE hs lv i (nD L k x)=nD (chE hs lv i L) k x:=aIm (by rw[hi]);have Qz:∀j,j≠i->chE hs lv j (nD L k x)=chE hs lv j L:=fun j hj=>aGb hL (fun e=>hj (by rw[hi,e]))
 rw[<-Hr]at hpl;have jm:=iH hpl;have vf:=iH uq;have Xi:=iH Qz;have IE:Hid (∀V,Below w.heap.size w V->Calls Tryz.prog 183 #[.agg (plc po),.int .i64 ((lv:Int)+1),.pointer (some ⟨b,0,none⟩)] V fun r w'=>∃p',r=.returned (.agg (plc p'))/\pZ hs (fun g=>(S g/\g<w.heap.size)\/V.heap.size<=g) w' (dI hs (fun g=>(S g/\g<w.heap.size)\/V.heap.size<=g) f w') (nD (chE hs lv i L) k x) (some p')/\Below V.heap.size V w'):=fun V hV=>by
  have h1:=ih (fun g=>S g/\g<w.heap.size) V _ (R i) b k x ((hpl i Cp).old.later hV) (hL.ch hs lv i) (aI aAC hn) (he.old.later hV) (hT.below hV);rw[BW,<-Ht,show(((lv+1:Nat):Nat):Int)=(lv:Int)+1 by omega]at h1;unfold pv at h1;exact h1
 have Hu:=iH (fun W (hb:Below w.heap.size w W) p=>aT9 W R #[.int .u32 (bb:Int),.slice va vn vc] i Cp p (dj.later hb));have Qo:(lv:Int)<=12:=by omega
 have Xb:((lv:Int)==13)=false:=aE.2 hO;have Xj:=iH Hr;have ye:Hid (IntKind.i64.wrap ((lv:Int)+1)=(lv:Int)+1):=by show _=_;rw[jM];omega
 have gd:w1.cell? ⟨b,1,none⟩=some (.int .u64 (hs k:Nat)):=by
  obtain⟨_,fr,h⟩:=he.later af;exact aG h rfl
 obtain⟨h1,u1⟩:∃x:Nat,x=hs k:=⟨_,rfl⟩
 rw[<-u1]at qi gd;clear h dj hpl uq Qz ai aw af al hi hL hn ih u1 Hr Qn BW he hT Ht hf;unfold pv;go_enter Tryz.func155,Tryz.ntmps155;go_upto_region 7 with fail
 clear ag;go_upto_region 9 with(first
  |(go_at_call 180;refine(qi.out _).mono ?_;rintro r wc ⟨rfl,IF⟩;obtain rfl:=IF.symm)
  |(refine cO rfl 131 _ rfl w.heap.size 0 rfl [.int .u32 (bb:Int),.slice va vn vc] _ (kF HX1.out) Tryz.underlying131 rfl iY ?_)
  |(go_at_call 179;refine(Ey.out _ HB1.out).mono ?_;rintro r w2 ⟨rfl,hb⟩;have HX2:=iH ((hb.block _ uBu).trans HX1.out);have bo:=iH ((hb.block _ uBu).trans bl.out);have aq:=iH (tW HB1.out hb);have HS2:Hid (w.heap.size+2<=w2.heap.size):=uEx;clear hb)
  |(refine aV rfl 258 _ _ rfl w2.heap.size (plc po) rfl rfl 258 (plc (none,none)) (aC w2 _) dN rfl (gW _) ?_;intro w3 h3 k3;have yd:=iH h3;have kh:Below w2.heap.size w2 w3:=(Below.newly' w2 _).trans (k3.below (aA _));have be:=iH ((kh.block _ uBv).trans HX2.out);have dp:=iH ((kh.block _ uBv).trans bo.out);have av:=iH (tW aq.out kh);have cd:Hid (w2.heap.size<w3.heap.size):=(gZ h3);obtain⟨X,hX⟩:∃X,X=w2.heap.size:=⟨_,rfl⟩;rw[<-hX]at yd cd ⊢;have jr:Hid (w.heap.size+2<=X):=uHy;clear h3 k3 kh hX))
 have ar:Hid (∀V,Below w3.heap.size w3 V->(V.heap[w.heap.size]? =some (.cells #[.int .u32 (bb:Int),.slice va vn vc,.slice none 0 0] 134 (0,0))/\V.heap[X]? =some (.cells (plc po) 258 (0,0)))):=fun V hV=>
  ⟨(hV.block _ uCz).trans be.out,(hV.block _ cd.out).trans yd.out⟩
 have HW:Hid (Below w3.heap.size w3 w3.drew):=aY w3;refine bO (S:=(fun V=>V.heap[w.heap.size]? =some (.cells #[.int .u32 (bb:Int),.slice va vn vc,.slice none 0 0] 134 (0,0))/\V.heap[X]? =some (.cells (plc po) 258 (0,0)))) [10] uAu uAw (fun ab=> ?_);refine tkA 0 54 (h:=?_);refine tyA 1 55 (hy:=dX uAz 131 _ rfl w.heap.size 0 rfl #[.int .u32 (bb:Int),.slice va vn vc] _ (fun w hw=>(kF hw.1)) Tryz.underlying131 rfl (by exact iY)) (h:=?_);(try simp only[pq]);refine tkA 2 56 (h:=?_);refine tyA 3 57 (hy:=aJ uAz 258 _ rfl X rfl (plc po) 258 (0,0) _ (fun w hw=>hw.2) Tryz.underlying258 rfl (by exact dN)) (h:=?_);(try simp only[pq]);refine tkA 4 58 (h:=?_);refine tkA 5 59 (h:=?_);(try simp only[pq]);refine tkA 6 60 (h:=?_);(try simp only[pq]);refine tkO 7 (some 61) (h:=fun K hK=> ?_);go_simp;go_at_call 183;rw[ye.out];refine(IE.out _ (tW av.out HW.out)).mono ?_;rintro r w5 ⟨p5,rfl,sb,hb⟩;have rp:=iH sb;have Q0:=iH HW.out.size;replace HW:=iH (tW HW.out hb);have MS:=iH HW.out;have IG:=iH HW.out.size;clear hb sb;dsimp only;refine hK.out _ _ uAw (fun ab=> ?_);clear hK K;(try simp only[pq]);refine tkO 8 (some 62) (h:=fun K hK=> ?_);go_simp;go_at_call 182;refine(Hu.out _ (tW av.out HW.out) p5).mono ?_;rintro r w6 ⟨c6,rfl,Xk,hb⟩;have vk:=iH Xk;replace HW:=iH (tW HW.out hb);have ek:=iH hb;obtain⟨b6,a6,n6,m6,rfl⟩:=Xk.parts;clear hb Xk;dsimp only;refine hK.out _ _ uAw (fun ab=> ?_);clear hK K;(try simp only[pq]);refine tkA 9 63 (h:=?_);(try simp only[pq]);refine tkU 10 none (h:=fun K hK=> ?_);rw[if_pos uAz];refine eC 134 _ _ rfl (w.heap.size+1) #[.int .u32 (b6:Int),.slice a6 n6 m6,.slice none 0 0] rfl rfl 134 #[.int .u32 0,.slice none 0 0,.slice none 0 0] ((HW.out.block _ uCz).trans dp.out) iT rfl uAx ?_;intro w7 h7 k7
 refine hK.out _ _ ?_;clear hK K;(try simp only[pq]);refine bJ uAu ?_ _;clear ab;go_wp2_with fail
 refine aN (bE rfl _ _ (w.heap.size+1) 134 _ (0,0) _ rfl h7 Tryz.underlying134 rfl iT) rfl ⟨_,rfl,?_,(tW av.out HW.out).trans (k7.below hO)⟩;have al:=cd.out;have ed:=jr.out;have gi:=IG.out;have Ac:=Q0.out;have si:=dI.of_row (hs:=hs) (f:=f) (L:=nD L k x) (S:=fun g=>(S g/\g<w.heap.size)\/w.heap.size+2<=g) (vk.out.weak fun g hg=>.inr hO) (fun j hj=>by
  rw[<-Xj.out];unfold aH4;by_cases ga:j=i
  ·subst ga
   rw[if_pos rfl,vf.out];exact(rp.out.later ek.out).weak fun g hg=>hg.imp_right fun hg=>by have:=hg;omega
  ·rw[if_neg ga,Xi.out j ga]
   exact((jm.out j hj).old.later (tW av.out HW.out)).weak fun g hg=>.inl hg)
 obtain⟨b7,v7,e7,si⟩:=si;simp only[gU,dA]at e7;obtain⟨rfl,rfl,_⟩:=e7;exact(si.kp (Kp.only k7 (fun h=>by omega))).weak fun g hg=>by
  exact Ae6
theorem aKL (hs:ByteArray->Nat) (hlt:∀k,hs k<18446744073709551616):∀f,f<=13->aDk hs f
 |0,_=>aMz hs
 |f+1,hf=>aMy hs hlt f hO (aPc hs f (aKL hs hlt f hO))
def hsN (s:Nat) (n:Int) (k:ByteArray):Nat:=tX (aNC s k.data.toList) n
theorem aJv (s:Nat) (n:Int) (k:ByteArray):hsN s n k<18446744073709551616:=aJm _ (aKQ _)
def fG (S:Nat->Prop) (w:World) (s:Nat) (n:Int) (L:List Ent) (c:Array Value):Prop:=
 ∃(bb:Nat) (a1:Option Addr) (n1 c1:Nat) (a2:Option Addr) (n2 c2:Nat),c=#[.int .u64 (s:Int),.int .i64 n,.int .i64 ((L.length:Nat):Int),.int .u32 (bb:Int),.slice a1 n1 c1,.slice a2 n2 c2]/\dI (hsN s n) S 13 w L #[.int .u32 (bb:Int),.slice a1 n1 c1,.slice a2 n2 c2]
section
variable {S S' : Nat → Prop} {w w' : World} {s : Nat} {n : Int} {L : List Ent} {c : Array Value}
theorem fG.imp (h:fG S w s n L c) (k:Kp S w w') (hS:∀g,S g->g<w.heap.size->S' g):fG S' w' s n L c:=by
 obtain⟨bb,a1,n1,c1,a2,n2,c2,rfl,h⟩:=h;exact⟨_,_,_,_,_,_,_,rfl,h.imp k hS⟩
theorem fG.kp (h:fG S w s n L c) (k:Kp S w w'):fG S w' s n L c:=h.imp k fun _ h _=>h
theorem fG.later (h:fG S w s n L c) (hb:Below w.heap.size w w'):fG S w' s n L c:=h.kp (Kp.later hb)
theorem fG.weak (h:fG S w s n L c) (hS:∀g,S g->S' g):fG S' w s n L c:=h.imp (fun _ _ _ _ e=>e) fun g h _=>hS g h
theorem fG.old (h:fG S w s n L c):fG (fun g=>S g/\g<w.heap.size) w s n L c:=h.imp (fun _ _ _ _ e=>e) fun _ h h'=>⟨h,h'⟩
theorem fG.size (h:fG S w s n L c):c.size=6:=by
 obtain⟨_,_,_,_,_,_,_,rfl,_⟩:=h;rfl
theorem fG.one (h:fG S w s n L c):c.all (·.oneCell')=true:=by
 obtain⟨_,_,_,_,_,_,_,rfl,_⟩:=h;simp[Value.oneCell']
theorem fG.zero (S:Nat->Prop) (w:World) (s:Nat) (n:Int):fG S w s n [] #[.int .u64 (s:Int),.int .i64 n,.int .i64 0,.int .u32 0,.slice none 0 0,.slice none 0 0]:=
 ⟨0,none,0,0,none,0,0,rfl,dI.zero _ _ _ _⟩
end
theorem qP {V:World} {X:Nat} {x0 x1 x2 a b d:Value} {T:TypeId} {fr:Nat×Nat} (h:V.heap[X]? =some (.cells #[x0,x1,x2,a,b,d] T fr)):V.rangeAt X 3 (#[a,b,d]:Array Value).toList:=fun j u hu=>by
 refine aG h ?_;rcases j with _|_|_|j
 ·simpa using hu
 ·simpa using hu
 ·simpa using hu
 ·simp at hu
theorem fH {w w1:World} {c:Array Value} {T:TypeId} (h:w.alloc (.cells c T)=w1):Below w.heap.size w w1/\w1.heap[w.heap.size]? =some (.cells c T (0,0))/\w1.heap.size=w.heap.size+1:=by
 exact Am6
theorem aTB (w:World) (s:Nat) (n:Int) (l bb:Nat) (a1:Option Addr) (n1 c1:Nat) (a2:Option Addr) (n2 c2:Nat):
  Calls Tryz.prog 64 #[.agg #[.int .u64 (s:Int),.int .i64 n,.int .i64 ((l:Nat):Int),.int .u32 (bb:Int),.slice a1 n1 c1,.slice a2 n2 c2]] w fun r w'=>r=.returned (.int .i64 (l:Int))/\Below w.heap.size w w':=by
 obtain⟨w1,ag⟩:∃w1,w.alloc (.cells #[.int .u64 (s:Int),.int .i64 n,.int .i64 ((l:Nat):Int),.int .u32 (bb:Int),.slice a1 n1 c1,.slice a2 n2 c2] 136)=w1:=⟨_,rfl⟩
 obtain⟨af,ai,al⟩:=fH ag;have rm:w1.cell? ⟨w.heap.size,2,none⟩=some (.int .i64 (l:Int)):=aG ai rfl;have HB1:=iH af;clear ai al af;go_enter Tryz.func64,Tryz.ntmps64;go_wp2_with fail
 go_ret;exact⟨rfl,HB1.out⟩
theorem aPf (w:World) (s:Nat) (Cr:s<18446744073709551616) (n:Int) (l bb:Nat) (a1:Option Addr) (n1 c1:Nat) (a2:Option Addr) (n2 c2:Nat) (k:ByteArray) (hk:k.size<=9223372036854775800):
  Calls Tryz.prog 153 #[.agg #[.int .u64 (s:Int),.int .i64 n,.int .i64 ((l:Nat):Int),.int .u32 (bb:Int),.slice a1 n1 c1,.slice a2 n2 c2],.string k] w fun r w'=>r=.returned (.int .u64 (hsN s n k:Nat))/\Below w.heap.size w w':=by
 obtain⟨w1,ag⟩:∃w1,w.alloc (.cells #[.int .u64 (s:Int),.int .i64 n,.int .i64 ((l:Nat):Int),.int .u32 (bb:Int),.slice a1 n1 c1,.slice a2 n2 c2] 136)=w1:=⟨_,rfl⟩
 obtain⟨af,ai,al⟩:=fH ag;have HX1:=iH ai;have HB1:=iH af;have HS1:=iH al;have Uj:=iH (fun W=>aOC s k Cr hk W);have Uk:=iH (fun W=>aCy (aNC s k.data.toList) n (aKQ _) W);have hh:tX (aNC s k.data.toList) n=hsN s n k:=rfl;rw[hh]at Uk;obtain⟨sm,Gk⟩:∃sm,sm=hsN s n k:=⟨_,rfl⟩
 rw[<-Gk]at Uk ⊢;obtain⟨tx,ju⟩:∃tx,tx=aNC s k.data.toList:=⟨_,rfl⟩
 rw[<-ju]at Uk Uj;clear ai al af hh Gk ju Cr hk;go_enter Tryz.func153,Tryz.ntmps153;go_upto_region 1 with fail
 clear ag;have ar:Hid (∀V,Below w1.heap.size w1 V->(V.cell? ⟨w.heap.size,0,none⟩=some (.int .u64 (s:Int))/\V.cell? ⟨w.heap.size,1,none⟩=some (.int .i64 n))):=fun V hV=>
  have h:=(hV.block _ uBu).trans HX1.out
  ⟨aG h rfl,aG h rfl⟩
 have HW:Hid (Below w1.heap.size w1 w1.drew):=aY w1;refine bO (S:=(fun V=>V.cell? ⟨w.heap.size,0,none⟩=some (.int .u64 (s:Int))/\V.cell? ⟨w.heap.size,1,none⟩=some (.int .i64 n))) [] uAu uAw (fun ab=> ?_);refine tkA 0 5 (h:=?_);refine tkA 1 6 (h:=?_);(try simp only[pq]);refine tkA 2 7 (h:=?_);refine tkA 3 8 (h:=?_);(try simp only[pq]);refine qJ (i:=4) (oi:=⟨some 9,_,_,_,_,_⟩) (v:=.int .u64 (tx:Int)) rfl uAu uAu uAu uAu (fun _ _ _ h=>h) ⟨by rfl,fun w jy=>⟨177,#[.int .u64 (s:Int),.string k],?hg2_4,(Uj.out w).mono fun _ _ h=>⟨h.1,h.2.symm⟩⟩⟩ uCw ?rg2_4
 case hg2_4=>go_simp
 (try simp only[pq]);refine tkA 5 10 (h:=?_);refine tkA 6 11 (h:=?_);(try simp only[pq]);refine tkA 7 12 (h:=?_);(try simp only[pq]);refine qJ (i:=8) (oi:=⟨some 13,_,_,_,_,_⟩) (v:=.int .u64 (sm:Int)) rfl uAu uAu uAu uAu (fun _ _ _ h=>h) ⟨by rfl,fun w jy=>⟨176,#[.int .u64 (tx:Int),.int .i64 n],?hg2_8,(Uk.out w).mono fun _ _ h=>⟨h.1,h.2.symm⟩⟩⟩ uCw ?rg2_8
 case hg2_8=>go_simp
 (try simp only[pq]);refine tkA 9 4 (h:=?_);(try simp only[pq]);refine bJ uAu ?_ _;clear ab;go_wp2_with fail
 go_ret;exact⟨rfl,tW HB1.out HW.out⟩
theorem aEP {W:World} {b:Nat} {hs:ByteArray->Nat} {e:Ent} {T:TypeId} {fr:Nat×Nat} (h:W.heap[b]? =some (.cells (aG7 hs e) T fr)):W.rangeAt b 2 (enV e.2):=fun j u hu=>aG h (by
 have hj:j<4:=(List.getElem?_eq_some_iff.1 hu).1;have e':(aG7 hs e)[2+j]? =(enV e.2)[j]? :=by
  match j,hj with
  |0,_=>rfl
  |1,_=>rfl
  |2,_=>rfl
  |3,_=>rfl
 rw[e'];exact hu)
theorem aTC {S:Nat->Prop} (w:World) (s:Nat) (Cr:s<18446744073709551616) (n:Int) (L:List Ent) (c:Array Value) (k:ByteArray) (hk:k.size<=9223372036854775800) (h:fG S w s n L c) (hL:jX L) (hn:L.length<=50000):
  Calls Tryz.prog 272 #[.agg c,.string k] w fun r w'=>r=.returned (.tuple #[.agg (aL ((jB L k).getD gO)),.bool (jB L k).isSome])/\Below w.heap.size w w':=by
 obtain⟨bb,a1,n1,c1,a2,n2,c2,rfl,oh⟩:=h;obtain⟨l,hl⟩:∃l,l=L.length:=⟨_,rfl⟩
 rw[<-hl];have od:=iH (fun W=>aPf W s Cr n l bb a1 n1 c1 a2 n2 c2 k hk);have L3:=iH (fun W (hb:Below w.heap.size w W)=>aG3 (hsN s n) (aJv s n) 13 (aA _) (fun g=>S g/\g<w.heap.size) W L _ k (oh.old.later hb) hL (aI hn hO));rw[show(((13-13:Nat):Nat):Int)=0 from rfl]at L3;obtain⟨sm,Gk⟩:∃sm,sm=hsN s n k:=⟨_,rfl⟩
 rw[<-Gk]at od L3;obtain⟨w1,ag⟩:∃w1,(w.alloc (.cells #[.int .u64 (s:Int),.int .i64 n,.int .i64 ((l:Nat):Int),.int .u32 (bb:Int),.slice a1 n1 c1,.slice a2 n2 c2] 136)).alloc (.cells #[.int .i64 0,.int .i64 0,.string ⟨#[]⟩,.pointer none] 37)=w1:=⟨_,rfl⟩
 obtain⟨af,ai,aw,al⟩:=lA ag;have bl:=iH aw;have HX1:=iH ai;have HB1:=iH af;have HS1:=iH al;clear ai aw al af Gk Cr hk oh hL hn hl;go_enter Tryz.func272,Tryz.ntmps272;go_upto_region 1 with fail
 clear ag;have ar:Hid (∀V,Below w1.heap.size w1 V->(V.heap[w.heap.size]? =some (.cells #[.int .u64 (s:Int),.int .i64 n,.int .i64 ((l:Nat):Int),.int .u32 (bb:Int),.slice a1 n1 c1,.slice a2 n2 c2] 136 (0,0)))):=fun V hV=>(hV.block _ uBu).trans HX1.out
 have HW:Hid (Below w1.heap.size w1 w1.drew):=aY w1;refine bO (S:=(fun V=>V.heap[w.heap.size]? =some (.cells #[.int .u64 (s:Int),.int .i64 n,.int .i64 ((l:Nat):Int),.int .u32 (bb:Int),.slice a1 n1 c1,.slice a2 n2 c2] 136 (0,0)))) [] uAu uAw (fun ab=> ?_);refine tkA 0 8 (h:=?_);refine tyA 1 9 (hy:=dX uAz 134 _ rfl w.heap.size 3 rfl #[.int .u32 (bb:Int),.slice a1 n1 c1,.slice a2 n2 c2] _ (fun w hw=>(qP hw)) Tryz.underlying134 rfl uYu) (h:=?_);(try simp only[pq]);refine tyA 2 10 (hy:=aJ uAz 136 _ rfl w.heap.size rfl #[.int .u64 (s:Int),.int .i64 n,.int .i64 ((l:Nat):Int),.int .u32 (bb:Int),.slice a1 n1 c1,.slice a2 n2 c2] 136 (0,0) _ (fun w hw=>hw) Tryz.underlying136 rfl (by exact gP)) (h:=?_);refine tkA 3 11 (h:=?_);(try simp only[pq]);refine tkA 5 13 (h:=?_);(try simp only[pq]);refine tkO 4 (some 12) (h:=fun K hK=> ?_);go_simp;go_at_call 153;refine(od.out _).mono ?_;rintro r w2 ⟨rfl,hb⟩;replace HW:=iH (tW HW.out hb);clear hb;dsimp only;refine hK.out _ _ uAw (fun ab=> ?_);clear hK K;(try simp only[pq]);refine tkO 6 (some 14) (h:=fun K hK=> ?_);go_simp;go_at_call 154;refine(L3.out _ (tW HB1.out HW.out)).mono ?_;rintro r w3 ⟨p,rfl,hp,hb⟩;have Lw:=iH hp;replace HW:=iH (tW HW.out hb);clear hb hp;dsimp only;refine hK.out _ _ uAw (fun ab=> ?_);clear hK K;(try simp only[pq]);refine tkA 7 6 (h:=?_);(try simp only[pq]);refine bJ uAu ?_ _;clear ab;have og:=iH (tW HB1.out HW.out);have dp:=iH ((HW.out.block _ uBu).trans bl.out);have na:Hid (w.heap.size+1<w3.heap.size):=by show _<_;have:=HW.out.size;have:=HS1.out;omega
 have hp:=Lw.out;unfold mO at hp;cases hg:jB L k with
 |none=>
  rw[hg]at hp;obtain rfl:p=none:=hp;have L4:=iH hg;clear hg Lw;unfold pv;go_wp2_with (first
   |(refine aW rfl 37 _ rfl w3.heap.size rfl 37 _ _ _ (aC _ _) Tryz.underlying37 rfl aF ?_)
   |(refine aV rfl 37 _ _ rfl (w.heap.size+1) #[.int .i64 0,.int .i64 0,.string ⟨#[]⟩,.pointer none] rfl rfl 37 _ (((Below.newly' w3 _).block _ na.out).trans dp.out) aF rfl uAx ?_;intro w6 h6 k6))
  exact aN (aR rfl _ _ (w.heap.size+1) 37 _ (0,0) _ rfl h6 Tryz.underlying37 rfl aF) rfl ⟨by rw[L4.out];rfl,(og.out.trans ((Below.newly' w3 _).mono og.out.size)).trans (k6.below hO)⟩
 |some x=>
  rw[hg]at hp;obtain⟨b,rfl,hb⟩:=hp;have vm:Hid (w3.rangeAt b 2 (enV x)):=by
   obtain⟨_,fr,h⟩:=hb;exact aEP h
  have L4:=iH hg;clear hg hb Lw;unfold pv;go_wp2_with (first
   |(refine cO rfl 37 _ rfl b 2 rfl (enV x) _ vm.out Tryz.underlying37 rfl aF ?_)
   |(refine aV rfl 37 _ _ rfl (w.heap.size+1) (aL x) rfl rfl 37 _ dp.out aF rfl (cE x) ?_;intro w6 h6 k6))
  exact aN (aR rfl _ _ (w.heap.size+1) 37 _ (0,0) _ rfl h6 Tryz.underlying37 rfl aF) rfl ⟨by rw[L4.out];rfl,og.out.trans (k6.below hO)⟩
end Go.Proofs.YthmfgidbcghnfaaGreatDoor
namespace Go.Proofs.YthmfgidbcghnfaaGreatDoor
open Go.RowKit
theorem aIv (p:UInt8->Bool) (h:((List.range 256).all fun n=>p (UInt8.ofNat n))=true) (c:UInt8):p c=true:=by
 rw[lI]at h;have h1:=h c.toNat (jZ.2 c.toNat_lt);rwa[show UInt8.ofNat c.toNat=c by simp]at h1
def hexL:List UInt8:=[48,49,50,51,52,53,54,55,56,57,97,98,99,100,101,102]
theorem aMx (c:UInt8):Lib.indexByte hexL c=if hval c false<=15 then(hval c false:Int)else-1:=by
 have:=aIv (fun c=>decide (Lib.indexByte hexL c=if hval c false<=15 then(hval c false:Int)else-1)) (by decide+kernel) c;simpa using this
def aDU (c:UInt8):UInt8:=if 65<=c.toNat/\c.toNat<=70 then UInt8.ofNat (c.toNat+32)else c
theorem aCP (c:UInt8):hval (aDU c) false=hval c true:=by
 have:=aIv (fun c=>decide (hval (aDU c) false=hval c true)) (by decide+kernel) c;simpa using this
theorem aKm (a b:Nat) (ha:a<16) (hb:b<16):bits .or .u8 ((16*a:Nat):Int) (b:Int)=((16*a+b:Nat):Int):=by
 have:∀a b:Fin 16,bits .or .u8 ((16*a.val:Nat):Int) (b.val:Int)=((16*a.val+b.val:Nat):Int):=by decide+kernel
 exact this ⟨a,ha⟩ ⟨b,hb⟩
theorem aAR (c:UInt8) (w:World):Calls Tryz.prog 264 #[.string ⟨#[48,49,50,51,52,53,54,55,56,57,97,98,99,100,101,102]⟩,.int .u8 (c.toNat:Int)] w fun e w'=>e=.returned (.int .i64 (if hval c false<=15 then(hval c false:Int)else-1))/\w=w':=by
 refine(Tryz.strings_IndexByte ⟨#[48,49,50,51,52,53,54,55,56,57,97,98,99,100,101,102]⟩ (c.toNat:Int) w).mono ?_;rintro e w' ⟨rfl,rfl⟩;refine⟨?_,rfl⟩;rw[<-aMx];have h1:((c.toNat:Int)).toNat.toUInt8=c:=by simp
 rw[h1];rfl
theorem aLZ (c:UInt8) (w:World) (h:hval c false<=15):Calls Tryz.prog 228 #[.int .u8 (c.toNat:Int)] w fun e w'=>e=.returned (.tuple #[.int .u8 ((hval c false:Nat):Int),.bool true])/\w=w':=by
 have HI:=iH (fun w=>aAR c w);rw[if_pos h]at HI;obtain⟨n,hn⟩:∃n,hval c false=n:=⟨_,rfl⟩
 rw[hn]at HI h ⊢;clear hn;have h0:¬(n:Int)<0:=by omega
 have h1:IntKind.u8.wrap (n:Int)=(n:Int):=by rw[IntKind.wrap_u8];omega
 exact Ag8
theorem aFE (c:UInt8) (w:World) (h:15<hval c false):Calls Tryz.prog 228 #[.int .u8 (c.toNat:Int)] w fun e w'=>e=.returned (.tuple #[.int .u8 0,.bool false])/\w=w':=by
 have HI:=iH (fun w=>aAR c w);rw[if_neg hO]at HI;clear h;exact Ag8
theorem aKi (c:UInt8) (w:World):Calls Tryz.prog 229 #[.int .u8 (c.toNat:Int)] w fun e w'=>e=.returned (.int .u8 ((aDU c).toNat:Int))/\w=w':=by
 have hc:(c.toNat:Int)<256:=by have:=c.toNat_lt;omega
 by_cases h:65<=c.toNat/\c.toNat<=70
 ·have H:Hid (((aDU c).toNat:Int)=(c.toNat:Int)+97-65):=by
   show _=_;unfold aDU;rw[if_pos h,aA7 uPw];omega
  have h1:(65:Int)<=c.toNat:=by omega
  have h2:(c.toNat:Int)<=70:=by omega
  clear h;exact Ag6
 ·have H:Hid (aDU c=c):=if_neg h
  rcases eB c.toNat 65 with h1|h1
  ·have h2:¬(65:Int)<=c.toNat:=by omega
   clear h h1;exact Ag6
  ·have h2:(65:Int)<=c.toNat:=by omega
   have h3:¬(c.toNat:Int)<=70:=by omega
   clear h h1;exact Ag6
theorem aHd (c:UInt8) (w:World) (hT:Esc w):Calls Tryz.prog 189 #[.int .u8 (c.toNat:Int)] w fun e w'=>e=.returned (.tuple #[.int .u8 (((uC c).getD 0).toNat:Int),.bool (uC c).isSome])/\Below w.heap.size w w':=by
 by_cases h34:(c.toNat:Int)=34
 ·rw[aCW (.inl h34)]
  simp only[aBa,aIM];rw[h34];exact aCd w hT
 by_cases E4:(c.toNat:Int)=92
 ·rw[aCW (.inr (.inl E4))]
  simp only[aBa,aIM];rw[E4];exact aCb w hT
 by_cases Xl:(c.toNat:Int)=47
 ·rw[aCW (.inr (.inr Xl))]
  simp only[aBa,aIM];rw[Xl];exact aCc w hT
 by_cases Hv:(c.toNat:Int)=110
 ·rw[esc_n Hv,Hv]
  exact aBh w hT
 by_cases Hw:(c.toNat:Int)=116
 ·rw[esc_t Hw,Hw]
  exact aBf w hT
 by_cases Hx:(c.toNat:Int)=114
 ·rw[esc_r Hx,Hx]
  exact aBg w hT
 rw[aPr ⟨by omega,Hv,Hw,Hx⟩];exact aDO _ w hT (aE.2 (kX h34)) (aE.2 (kX E4)) (aE.2 (kX Hv)) (aE.2 (kX Hw)) (aE.2 (kX Hx)) (aE.2 (kX Xl))
end Go.Proofs.YthmfgidbcghnfaaGreatDoor
