import Derived.Test.YthmfgidbcghnfaaGreatDoorQ0
import Derived.Test.YthmfgidbcghnfaaGreatDoorQ48
set_option maxRecDepth 1000000
set_option maxHeartbeats 8000000
set_option linter.unusedSimpArgs false
namespace Go.Proofs.YthmfgidbcghnfaaGreatDoor
open Go.RowKit
def aLb (w:World) (z:Except (Nat×Int) (Tr×Nat)) (e:Ending) (w':World):Prop:=match z with
 | .ok R=>∃y,e=.returned (.tuple #[.agg (aL y),.int .i64 (R.2:Int),.nilIface])/\VAt (fun g=>w.heap.size<=g) w' R.1 y/\Below w.heap.size w w'
 | .error q=>∃E,e=.returned (.tuple #[.agg #[.int .i64 0,.int .i64 0,.string ⟨#[]⟩,.pointer none],.int .i64 0,E])/\fR w.heap.size w' E q.2 (q.1:Int)/\Below w.heap.size w w'
def PostP (w:World) (z:Except (Nat×Int) Tr) (e:Ending) (w':World):Prop:=match z with
 | .ok t=>∃y,e=.returned (.tuple #[.agg (aL y),.nilIface])/\VAt (fun g=>w.heap.size<=g) w' t y/\Below w.heap.size w w'
 | .error q=>∃E,e=.returned (.tuple #[.agg #[.int .i64 0,.int .i64 0,.string ⟨#[]⟩,.pointer none],E])/\fR w.heap.size w' E q.2 (q.1:Int)/\Below w.heap.size w w'
theorem aMJ {S:Nat} {W:World} {E:Value} {n:Int} (h:fR S W E 0 n):E=.nilIface:=by
 rcases h with h|⟨_,_,_,_,_,h,_⟩
 ·exact h.2
 ·exact absurd rfl h
theorem aL2 (s:Nat) (bb:Int) (x:ByteArray) (a:Nat) (w:World) (hT:T13 w) (h6:iF w) (hx:x.size<=2000000) (hs:s<18446744073709551616) (ha:a<=x.size):
  Calls Tryz.prog 27 #[.agg #[.int .u64 (s:Int),.int .i64 bb],.string x,.int .i64 (a:Int)] w (aLb w (mG x.data.toList a)):=by
 have hl:x.data.toList.length=x.size:=cY x;have hC:∀W,Below w.heap.size w W->Ctx w.heap.size W:=fun W hW=>(Ctx.start hT h6).later hW (aA _)
 have hN:∀W rb,Below w.heap.size w W->w.heap.size<=rb->W.heap[rb]? =some (.cells (rdC s bb x (a:Int) 0) 103 (0,0))->dG w.heap.size s bb x W rb a 0:=fun W rb hW hr h=>⟨hC W hW,hr,h⟩
 have hA:=(aEi x.data.toList (2*x.data.toList.length+2)).1 1 a 0 hO hO;unfold mG;cases hn:nxR x.data.toList a with
 |error q=>
  rw[aKg hO hn];refine aMY s bb x a w q (tV hO hn).2 fun W rb hW hr h=> ?_
  have:=aA0 w.heap.size s bb x W rb a 0 (hN W rb hW hr h) ha hx;rw[hn]at this;exact this
 |ok t=>
  have h1:∀W rb,Below w.heap.size w W->w.heap.size<=rb->W.heap[rb]? =some (.cells (rdC s bb x (a:Int) 0) 103 (0,0))->Calls Tryz.prog 54 #[.pointer (some ⟨rb,0,none⟩)] W (fun e w'=>e=.returned (.agg (bN t))/\dG w.heap.size s bb x w' rb t.e 0/\W.grownBy w' (some rb)):=fun W rb hW hr h=>by
   have:=aA0 w.heap.size s bb x W rb a 0 (hN W rb hW hr h) ha hx;rw[hn]at this;exact this
  have h2:=fun W rb h=>aJJ w.heap.size s bb x hx hs (2*x.data.toList.length+2) W rb 1 a 0 t h uAv uAv uAv ha hn hO
  cases hv:rdV x.data.toList (2*x.data.toList.length+2) 1 a 0 with
  |error q=>
   rw[hv]at h2 hA;exact aMX s bb x a w t q hA.2 h1 h2
  |ok R=>
   rw[hv]at h2;exact aMW s bb x a w t R h1 h2
theorem tB (s:Nat) (bb:Int) (x:ByteArray) (w:World) (hT:T13 w) (h6:iF w) (hx:x.size<=2000000) (hs:s<18446744073709551616):
  Calls Tryz.prog 20 #[.agg #[.int .u64 (s:Int),.int .i64 bb],.string x] w (PostP w (jO x.data.toList)):=by
 have hl:x.data.toList.length=x.size:=cY x;have z7:∀W,Below w.heap.size w W->Calls Tryz.prog 27 #[.agg #[.int .u64 (s:Int),.int .i64 bb],.string x,.int .i64 0] W (aLb W (mG x.data.toList 0)):=fun W hW=>aL2 s bb x 0 W (hT.below hW) (h6.below hW) hx hs (aS _)
 have Pc:∀W (p:Nat),p<=x.size->Below w.heap.size w W->Calls Tryz.prog 49 #[.string x,.int .i64 (p:Int)] W fun e w'=>∃E,e=.returned (.tuple #[aFq (cB x.data.toList p).1,E])/\fR W.heap.size w' E (cB x.data.toList p).2.2 ((cB x.data.toList p).2.1:Nat)/\Below W.heap.size W w':=fun W p hp hW=>zI x p W (hT.below hW) hp hx
 have lq:=wX x.data.toList 0 (aS _);clear hT h6;unfold jO;obtain⟨w1,ag⟩:∃w1,(w.alloc (.cells #[.int .u64 (s:Int),.int .i64 bb] 24)).alloc (.cells #[.int .i64 0,.int .i64 0,.string ⟨#[]⟩,.pointer none] 37)=w1:=⟨_,rfl⟩
 obtain⟨af,dr,qb,al⟩:=fL ag;have HB1:=iH af;have bd:=iH dr;have rf:=iH qb;have HS1:Hid (w1.heap.size=w.heap.size+2):=al;clear af dr qb al;by_cases hm:1048576<x.size
 ·rw[if_pos hO]
  have HM:(decide ((1048576:Int)<(x.size:Int)))=true:=gT hO;have MA:(1048576:Int)<(x.size:Int):=by omega
  have HF:=iH (fun W=>aDb 14 0 W uAv uAv);clear z7 Pc lq hl hx hs hm;go_enter Tryz.func20,Tryz.ntmps20;go_upto_region 1 with fail
  clear ag;go_wp2_with (first
   |(go_at_call 48;refine(HF.out _).mono ?_;rintro r V ⟨E,rfl,he,hb⟩;have HE:=iH he;have HB:=iH hb;have Cf:=iH (kW hb rf.out);clear he hb)
   |(refine aV rfl 37 _ _ rfl (w.heap.size+1) #[.int .i64 0,.int .i64 0,.string ⟨#[]⟩,.pointer none] rfl rfl 37 _ Cf.out aF rfl uAx ?_;intro w9 h9 k9))
  have h1:=HS1.out;have h2:=HB.out.size;refine aN (aR rfl _ _ (w.heap.size+1) 37 _ (0,0) _ rfl h9 Tryz.underlying37 rfl aF) rfl ?_;exact⟨_,rfl,(HE.out.but k9 hO).low hO,HB1.out.trans ((HB.out.mono HB1.out.size).trans (k9.below hO))⟩
 ·rw[if_neg hO]
  have MA:¬(1048576:Int)<(x.size:Int):=by omega
  cases ht:mG x.data.toList 0 with
  |error q=>
   rw[ht]at z7 lq;have vi:=iH z7;have D4:Hid (q.2≠0):=lq.2;clear z7 Pc lq hl hx hs hm ht;go_enter Tryz.func20,Tryz.ntmps20;go_upto_region 1 with fail
   clear ag;go_wp2_with (first
    |(refine aW rfl 24 _ rfl w.heap.size rfl 24 _ _ _ bd.out Tryz.underlying24 rfl gQ ?_)
    |(go_at_call 27;(with_reducible refine(vi.out _ HB1.out).mono ?_);rintro r V ⟨E,rfl,he,hb⟩;have HE:=iH he;have HB:=iH hb;obtain⟨Eb,rfl⟩:=he.shape D4.out;clear he hb)
    |(refine aV rfl 37 _ _ rfl V.heap.size #[.int .i64 0,.int .i64 0,.string ⟨#[]⟩,.pointer none] rfl rfl 37 _ (aC _ _) aF rfl uAx ?_;intro w3 h3 k3;have av:Hid (Below V.heap.size V w3):=(Below.newly' V _).trans (k3.below (aA _));have be:=iH h3;clear h3 k3)
    |(refine aV rfl 37 _ _ rfl (w.heap.size+1) #[.int .i64 0,.int .i64 0,.string ⟨#[]⟩,.pointer none] rfl rfl 37 _ (((tW HB.out av.out).block _ (gZ rf.out)).trans rf.out) aF rfl uAx ?_;intro w9 h9 k9))
   have h1:=HS1.out;have h2:=HB.out.size;have h3:=av.out.size;refine aN (aR rfl _ _ (w.heap.size+1) 37 _ (0,0) _ rfl h9 Tryz.underlying37 rfl aF) rfl ?_;exact⟨_,rfl,((HE.out.later av.out).but k9 hO).low hO,HB1.out.trans (((tW HB.out av.out).mono HB1.out.size).trans (k9.below hO))⟩
  |ok R=>
   obtain⟨t,e2⟩:=R;rw[ht]at z7 lq;have vi:=iH z7;obtain⟨_,_,_,_,zb⟩:=lq;have Pd:=fun W=>Pc W e2 uUu
   have mo:(cB x.data.toList e2).1.a<=2000000:=by
    by_cases h:(cB x.data.toList e2).2.2=0
    ·have:=(sA x.data.toList e2 uUu h).1
     have:=sA x.data.toList e2 uUu h;omega
    ·unfold cB at h ⊢
     simp only at h ⊢;split
     ·rename_i h2;rw[if_pos h2]at h;exact absurd rfl h
     ·simp
   simp only;generalize cB x.data.toList e2=Q at Pd mo ⊢;obtain⟨⟨tk,ta,te,tn,tt⟩,qn,qe⟩:=Q;simp only at Pd mo ⊢;by_cases Ew:qe=0
   ·subst Ew
    rw[if_neg uAy];have nr:Hid (∀W,Below w.heap.size w W->Calls Tryz.prog 49 #[.string x,.int .i64 (e2:Int)] W fun e w'=>e=.returned (.tuple #[.agg (bN ⟨tk,ta,te,tn,tt⟩),.nilIface])/\Below W.heap.size W w'):=fun W hW=>(Pd W hW).mono fun e V ⟨E,h1,h2,h3⟩=>⟨by rw[h1,aMJ h2];rfl,h3⟩
    clear Pd;by_cases hk:tk=0
    ·rw[if_neg uJu]
     subst hk;clear z7 hl hx hs hm ht Pc zb mo;go_enter Tryz.func20,Tryz.ntmps20;go_upto_region 1 with fail
     clear ag;go_wp2_with (first
      |(refine aW rfl 24 _ rfl w.heap.size rfl 24 _ _ _ bd.out Tryz.underlying24 rfl gQ ?_)
      |(go_at_call 27;(with_reducible refine(vi.out _ HB1.out).mono ?_);rintro r V ⟨y,rfl,hy,hb⟩;have HY:=iH hy;have HB:=iH hb;have Cf:=iH (kW hb rf.out);clear hy hb)
      |(refine aV rfl 37 _ _ rfl V.heap.size (aL y) rfl rfl 37 _ (aC _ _) aF rfl (cE y) ?_;intro w3 h3 k3;have av:Hid (Below V.heap.size V w3):=(Below.newly' V _).trans (k3.below (aA _));have be:=iH h3;clear h3 k3)
      |(go_at_call 49;(with_reducible refine(nr.out _ (HB1.out.trans ((tW HB.out av.out).mono HB1.out.size))).mono ?_);rintro r V5 ⟨rfl,hb⟩;have bp:Hid (Below V.heap.size V V5):=tW av.out hb;have fg:=iH (kW hb be.out);clear hb)
      |(refine aV rfl 90 _ _ rfl V5.heap.size (bN ⟨0,ta,te,tn,tt⟩) rfl rfl 90 _ (aC _ _) bR rfl uBw ?_;intro w6 h6 k6;have rk:Hid (Below V5.heap.size V5 w6):=(Below.newly' V5 _).trans (k6.below (aA _));have Df:=iH h6;have ek:Hid (Below V.heap.size V w6):=tW bp.out rk.out;have HX6:=iH (kW rk.out fg.out);have lg:=iH (kW ek.out Cf.out);have c0:w6.cell? ⟨V5.heap.size,0,none⟩=some (.int .i64 0):=aG Df.out rfl;have c1:w6.cell? ⟨V5.heap.size,1,none⟩=some (.int .i64 (ta:Int)):=aG Df.out rfl;clear h6 k6)
      |(refine aW rfl 37 _ rfl V.heap.size rfl 37 _ _ _ HX6.out Tryz.underlying37 rfl aF ?_)
      |(refine aV rfl 37 _ _ rfl (w.heap.size+1) (aL y) rfl rfl 37 _ lg.out aF rfl (cE y) ?_;intro w9 h9 k9))
     have t1:=HS1.out;have t2:=HB.out.size;have t3:=bp.out.size;have t4:=rk.out.size;have zp:Hid (Below w.heap.size w w6):=HB1.out.trans ((tW HB.out ek.out).mono HB1.out.size);refine aN (aR rfl _ _ (w.heap.size+1) 37 _ (0,0) _ rfl h9 Tryz.underlying37 rfl aF) rfl ?_;exact⟨y,rfl,((HY.out.later ek.out).imp (Kq.only k9 fun h=>by omega) fun g h _=>by omega),zp.out.trans (k9.below hO)⟩
    ·rw[if_pos hk]
     have HK:Hid ((tk==0)=false):=aE.2 hk;have HF:=iH (fun W=>aDb 11 ta W uAv mo);clear z7 hl hx hs hm ht Pc zb mo;go_enter Tryz.func20,Tryz.ntmps20;go_upto_region 1 with fail
     clear ag;have du:=HK.out;go_wp2_with (first
      |(refine aW rfl 24 _ rfl w.heap.size rfl 24 _ _ _ bd.out Tryz.underlying24 rfl gQ ?_)
      |(go_at_call 27;(with_reducible refine(vi.out _ HB1.out).mono ?_);rintro r V ⟨y,rfl,hy,hb⟩;have HY:=iH hy;have HB:=iH hb;have Cf:=iH (kW hb rf.out);clear hy hb)
      |(refine aV rfl 37 _ _ rfl V.heap.size (aL y) rfl rfl 37 _ (aC _ _) aF rfl (cE y) ?_;intro w3 h3 k3;have av:Hid (Below V.heap.size V w3):=(Below.newly' V _).trans (k3.below (aA _));have be:=iH h3;clear h3 k3)
      |(go_at_call 49;(with_reducible refine(nr.out _ (HB1.out.trans ((tW HB.out av.out).mono HB1.out.size))).mono ?_);rintro r V5 ⟨rfl,hb⟩;have bp:Hid (Below V.heap.size V V5):=tW av.out hb;have fg:=iH (kW hb be.out);clear hb)
      |(refine aV rfl 90 _ _ rfl V5.heap.size (bN ⟨tk,ta,te,tn,tt⟩) rfl rfl 90 _ (aC _ _) bR rfl uBw ?_;intro w6 h6 k6;have rk:Hid (Below V5.heap.size V5 w6):=(Below.newly' V5 _).trans (k6.below (aA _));have Df:=iH h6;have ek:Hid (Below V.heap.size V w6):=tW bp.out rk.out;have HX6:=iH (kW rk.out fg.out);have lg:=iH (kW ek.out Cf.out);have c0:w6.cell? ⟨V5.heap.size,0,none⟩=some (.int .i64 tk):=aG Df.out rfl;have c1:w6.cell? ⟨V5.heap.size,1,none⟩=some (.int .i64 (ta:Int)):=aG Df.out rfl;clear h6 k6)
      |(go_at_call 48;refine(HF.out _).mono ?_;rintro r V7 ⟨E,rfl,he,hb⟩;have HE:=iH he;have yc:=iH hb;clear he hb)
      |(refine aV rfl 37 _ _ rfl (w.heap.size+1) #[.int .i64 0,.int .i64 0,.string ⟨#[]⟩,.pointer none] rfl rfl 37 _ (kW yc.out lg.out) aF rfl uAx ?_;intro w9 h9 k9))
     have t1:=HS1.out;have t2:=HB.out.size;have t3:=bp.out.size;have t4:=rk.out.size;have zp:Hid (Below w.heap.size w w6):=HB1.out.trans ((tW HB.out ek.out).mono HB1.out.size);have t7:=yc.out.size;refine aN (aR rfl _ _ (w.heap.size+1) 37 _ (0,0) _ rfl h9 Tryz.underlying37 rfl aF) rfl ?_;exact⟨_,rfl,(HE.out.but k9 hO).low hO,zp.out.trans ((yc.out.mono hO).trans (k9.below hO))⟩
   ·rw[if_pos Ew]
    have D4:Hid (qe≠0):=Ew;have nr:=iH Pd;clear z7 hl hx hs hm ht Pc zb mo Pd Ew;go_enter Tryz.func20,Tryz.ntmps20;go_upto_region 1 with fail
    clear ag;go_wp2_with (first
     |(refine aW rfl 24 _ rfl w.heap.size rfl 24 _ _ _ bd.out Tryz.underlying24 rfl gQ ?_)
     |(go_at_call 27;(with_reducible refine(vi.out _ HB1.out).mono ?_);rintro r V ⟨y,rfl,hy,hb⟩;have HY:=iH hy;have HB:=iH hb;have Cf:=iH (kW hb rf.out);clear hy hb)
     |(refine aV rfl 37 _ _ rfl V.heap.size (aL y) rfl rfl 37 _ (aC _ _) aF rfl (cE y) ?_;intro w3 h3 k3;have av:Hid (Below V.heap.size V w3):=(Below.newly' V _).trans (k3.below (aA _));have be:=iH h3;clear h3 k3)
     |(go_at_call 49;(with_reducible refine(nr.out _ (HB1.out.trans ((tW HB.out av.out).mono HB1.out.size))).mono ?_);rintro r V5 ⟨E,rfl,he,hb⟩;have bp:Hid (Below V.heap.size V V5):=tW av.out hb;have fg:=iH (kW hb be.out);have Gn:=iH (he.low av.out.size);obtain⟨Eb,rfl⟩:=he.shape D4.out;clear he hb)
     |(refine aV rfl 90 _ _ rfl V5.heap.size (bN ⟨tk,ta,te,tn,tt⟩) rfl rfl 90 _ (aC _ _) bR rfl uBw ?_;intro w6 h6 k6;have rk:Hid (Below V5.heap.size V5 w6):=(Below.newly' V5 _).trans (k6.below (aA _));have Df:=iH h6;have ek:Hid (Below V.heap.size V w6):=tW bp.out rk.out;have HX6:=iH (kW rk.out fg.out);have lg:=iH (kW ek.out Cf.out);have c0:w6.cell? ⟨V5.heap.size,0,none⟩=some (.int .i64 tk):=aG Df.out rfl;have c1:w6.cell? ⟨V5.heap.size,1,none⟩=some (.int .i64 (ta:Int)):=aG Df.out rfl;clear h6 k6)
     |(refine aV rfl 37 _ _ rfl (w.heap.size+1) #[.int .i64 0,.int .i64 0,.string ⟨#[]⟩,.pointer none] rfl rfl 37 _ lg.out aF rfl uAx ?_;intro w9 h9 k9))
    have t1:=HS1.out;have t2:=HB.out.size;have t3:=bp.out.size;have t4:=rk.out.size;have zp:Hid (Below w.heap.size w w6):=HB1.out.trans ((tW HB.out ek.out).mono HB1.out.size);refine aN (aR rfl _ _ (w.heap.size+1) 37 _ (0,0) _ rfl h9 Tryz.underlying37 rfl aF) rfl ?_;exact⟨_,rfl,((Gn.out.later rk.out).but k9 hO).low hO,zp.out.trans (k9.below hO)⟩
def aDg (l:List UInt8):Bool:=match mG l 0 with
 | .error _=>false
 | .ok R=>eY R.1==l
theorem aEc {l:List UInt8} {a:Nat} (ha:a<=l.length) (hl:l.length<=2000000) {R:Tr×Nat} (h:mG l a=.ok R):fQ R.1:=by
 have lq:=wX l a ha;rw[h]at lq;exact⟨⟨lq.1,lq.2.1,lq.2.2.1⟩,kK.mono hl _ (aEe ha h).2⟩
theorem aDc (x:ByteArray) (w:World) (hT:T13 w) (hP:Tab w) (h6:iF w) (hx:x.size<=2000000):
  Calls Tryz.prog 25 #[.string x] w fun e w'=>e=.returned (.bool (aDg x.data.toList))/\Below w.heap.size w w':=by
 have hl:x.data.toList.length=x.size:=cY x;have lq:=wX x.data.toList 0 (aS _);have z7:=aL2 0 64 x 0 w hT h6 hx uAv (aS _);unfold aDg;cases ht:mG x.data.toList 0 with
 |error q=>
  rw[ht]at lq z7;have D4:Hid (q.2≠0):=lq.2;have vi:Hid (Calls Tryz.prog 27 #[.agg #[.int .u64 0,.int .i64 64],.string x,.int .i64 0] w (aLb w (.error q))):=z7;clear hl lq z7 ht hT hP h6 hx;go_enter Tryz.func25,Tryz.ntmps25;go_wp2_with (first
   |(go_at_call 27;refine vi.out.mono ?_;rintro r V ⟨E,rfl,he,hb⟩;have HB:=iH hb;obtain⟨Eb,rfl⟩:=he.shape D4.out;clear he hb)
   |(refine aV rfl 37 _ _ rfl V.heap.size #[.int .i64 0,.int .i64 0,.string ⟨#[]⟩,.pointer none] rfl rfl 37 _ (aC _ _) aF rfl uAx ?_;intro w3 h3 k3;have av:Hid (Below V.heap.size V w3):=(Below.newly' V _).trans (k3.below (aA _));clear h3 k3))
  go_ret;exact⟨rfl,tW HB.out av.out⟩
 |ok R=>
  rw[ht]at z7;have vi:Hid (Calls Tryz.prog 27 #[.agg #[.int .u64 0,.int .i64 64],.string x,.int .i64 0] w (aLb w (.ok R))):=z7;have zw:=iH (aEc (aS _) hO ht);have Ag:Hid (∀V y,Below w.heap.size w V->VAt (fun _=>True) V R.1 y->Calls Tryz.prog 17 #[.agg (aL y)] V fun e w'=>e=.returned (.string ⟨(eY R.1).toArray⟩)/\Below V.heap.size V w'):=fun V y hb hy=>xN R.1 y V (hT.below hb).1 (hP.below hb) (h6.below hb) hy zw.out
  clear hl lq z7 ht hT hP h6 hx zw;go_enter Tryz.func25,Tryz.ntmps25;go_wp2_with (first
   |(go_at_call 27;refine vi.out.mono ?_;rintro r V ⟨y,rfl,hy,hb⟩;have HY:=iH hy;have HB:=iH hb;clear hy hb)
   |(refine aV rfl 37 _ _ rfl V.heap.size (aL y) rfl rfl 37 _ (aC _ _) aF rfl (cE y) ?_;intro w3 h3 k3;have av:Hid (Below V.heap.size V w3):=(Below.newly' V _).trans (k3.below (aA _));have be:=iH h3;clear h3 k3)
   |(refine aW uAz 37 _ rfl V.heap.size rfl 37 _ _ _ be.out Tryz.underlying37 rfl aF ?_)
   |(go_at_call 17;(with_reducible refine(Ag.out _ y (tW HB.out av.out) ((HY.out.later av.out).weak fun _ _=>trivial)).mono ?_);rintro r V5 ⟨rfl,hb⟩;have bp:=iH hb;clear hb))
  go_ret;have h2:=HB.out.size;have h3:=av.out.size;exact⟨nN (by rw[dJ]),HB.out.trans ((av.out.mono h2).trans (bp.out.mono hO))⟩
theorem aEr {l:List UInt8} {t:Tr} (h:jO l=.ok t):l.length<=1048576/\∃e,mG l 0=.ok (t,e):=by
 unfold jO at h;split at h
 ·cases h
 ·rename_i hl
  refine⟨by omega,?_⟩;cases ht:mG l 0 with
  |error q=>rw[ht]at h;cases h
  |ok R=>
   obtain⟨t2,e⟩:=R;rw[ht]at h;simp only at h;split at h
   ·cases h
   ·split at h
    ·cases h
    ·simp only[cM]at h
     exact⟨e,by rw[h]⟩
theorem sJ {l:List UInt8} {t:Tr} (h:jO l=.ok t):fQ t:=by
 obtain⟨hl,e,ht⟩:=aEr h;exact aEc (aS _) hO ht
def T14 (w:World):Prop:=T13 w/\Tab w/\iF w
theorem T14.below {w w':World} (h:T14 w) (hb:Below w.heap.size w w'):T14 w':=⟨h.1.below hb,h.2.1.below hb,h.2.2.below hb⟩
theorem fR.at {S:Nat} {W:World} {E:Value} {c n:Int} (h:fR S W E c n):rH W E c n:=h.v
theorem xF (w:World) (hT:T14 w):Calls Tryz.prog 13 #[] w fun e w'=>e=.returned (.bool true)/\Below w.heap.size w w':=by
 have p1:jO [123,32,34,98,34,32,58,32,60,50,44,49,62,44,32,34,97,34,58,110,117,108,108,125]=.ok (.nd 5 0 ⟨#[]⟩ [⟨#[97]⟩,⟨#[98]⟩] [.nd 0 0 ⟨#[]⟩ [] [],.nd 6 0 ⟨#[]⟩ [] [.nd 2 1 ⟨#[]⟩ [] [],.nd 2 2 ⟨#[]⟩ [] []]]):=by kernel_rfl
 have p2:jO [91,49,44,44,93]=.error (3,2):=by kernel_rfl
 have q1:aDg [91,49,93]=true:=by kernel_rfl
 have q2:aDg [91,49,32,93]=false:=by kernel_rfl
 have e1:eY (.nd 5 0 ⟨#[]⟩ [⟨#[97]⟩,⟨#[98]⟩] [.nd 0 0 ⟨#[]⟩ [] [],.nd 6 0 ⟨#[]⟩ [] [.nd 2 1 ⟨#[]⟩ [] [],.nd 2 2 ⟨#[]⟩ [] []]])=[123,34,97,34,58,110,117,108,108,44,34,98,34,58,60,49,44,50,62,125]:=by kernel_rfl
 have hv:=sJ p1;have h1:=fun W (hb:Below w.heap.size w W)=>tB 0 8 ⟨#[123,32,34,98,34,32,58,32,60,50,44,49,62,44,32,34,97,34,58,110,117,108,108,125]⟩ W (hT.below hb).1 (hT.below hb).2.2 uAv uAv
 have h2:=fun W (hb:Below w.heap.size w W)=>tB 0 0 ⟨#[91,49,44,44,93]⟩ W (hT.below hb).1 (hT.below hb).2.2 uAv uAv
 have h3:=fun W (hb:Below w.heap.size w W)=>aDc ⟨#[91,49,93]⟩ W (hT.below hb).1 (hT.below hb).2.1 (hT.below hb).2.2 uAv
 have h4:=fun W (hb:Below w.heap.size w W)=>aDc ⟨#[91,49,32,93]⟩ W (hT.below hb).1 (hT.below hb).2.1 (hT.below hb).2.2 uAv
 simp only[p1]at h1;simp only[p2]at h2;simp only[q1]at h3;simp only[q2]at h4;have rf:Hid (∀W,Below w.heap.size w W->Calls Tryz.prog 20 #[.agg #[.int .u64 0,.int .i64 8],.string ⟨#[123,32,34,98,34,32,58,32,60,50,44,49,62,44,32,34,97,34,58,110,117,108,108,125]⟩] W fun e w'=>∃y,e=.returned (.tuple #[.agg (aL y),.nilIface])/\VAt (fun g=>W.heap.size<=g) w' (.nd 5 0 ⟨#[]⟩ [⟨#[97]⟩,⟨#[98]⟩] [.nd 0 0 ⟨#[]⟩ [] [],.nd 6 0 ⟨#[]⟩ [] [.nd 2 1 ⟨#[]⟩ [] [],.nd 2 2 ⟨#[]⟩ [] []]]) y/\Below W.heap.size W w'):=h1;have uy:Hid (∀W,Below w.heap.size w W->Calls Tryz.prog 20 #[.agg #[.int .u64 0,.int .i64 0],.string ⟨#[91,49,44,44,93]⟩] W fun e w'=>∃E,e=.returned (.tuple #[.agg #[.int .i64 0,.int .i64 0,.string ⟨#[]⟩,.pointer none],E])/\fR W.heap.size w' E 2 3/\Below W.heap.size W w'):=h2;have bd:Hid (∀W,Below w.heap.size w W->Calls Tryz.prog 25 #[.string ⟨#[91,49,93]⟩] W fun e w'=>e=.returned (.bool true)/\Below W.heap.size W w'):=h3;have yj:Hid (∀W,Below w.heap.size w W->Calls Tryz.prog 25 #[.string ⟨#[91,49,32,93]⟩] W fun e w'=>e=.returned (.bool false)/\Below W.heap.size W w'):=h4;obtain⟨T1,Iy⟩:∃T1:Tr,T1=(.nd 5 0 ⟨#[]⟩ [⟨#[97]⟩,⟨#[98]⟩] [.nd 0 0 ⟨#[]⟩ [] [],.nd 6 0 ⟨#[]⟩ [] [.nd 2 1 ⟨#[]⟩ [] [],.nd 2 2 ⟨#[]⟩ [] []]]):=⟨_,rfl⟩
 have hk:T1.k=5:=by rw[Iy];rfl
 rw[<-Iy]at rf e1 hv;have Ag:Hid (∀W y,Below w.heap.size w W->VAt (fun _=>True) W T1 y->Calls Tryz.prog 17 #[.agg (aL y)] W fun e w'=>e=.returned (.string ⟨#[123,34,97,34,58,110,117,108,108,44,34,98,34,58,60,49,44,50,62,125]⟩)/\Below W.heap.size W w'):=fun W y hb hy=>by
  have h:=xN T1 y W (hT.below hb).1.1 (hT.below hb).2.1 (hT.below hb).2.2 hy hv;rw[e1]at h;exact h
 have o7:Hid (∀W y,VAt (fun _=>True) W T1 y->Calls Tryz.prog 32 #[.agg (aL y)] W fun e w'=>e=.returned (.int .i64 5)/\Below W.heap.size W w'):=fun W y hy=>by
  have h:=iQ W y;rw[hy.k,hk]at h;exact h
 have Gu:Hid (∀W E,Below w.heap.size w W->rH W E 2 3->Calls Tryz.prog 24 #[E,.int .i64 3,.int .i64 2] W fun e w'=>e=.returned (.bool true)/\Below W.heap.size W w'):=fun W E hb hE=>aOP E 2 3 W hE (hT.below hb).1.et
 have HW:Hid (Below w.heap.size w w):=bB _ _;clear p1 p2 q1 q2 e1 hv h1 h2 h3 h4 Iy hk hT;go_enter Tryz.func13,Tryz.ntmps13;go_wp2_with (first
  |(go_at_call 20;(with_reducible refine(rf.out _ HW.out).mono ?_);rintro r V ⟨y,rfl,hy,hb⟩;have HY:Hid (VAt (fun _=>True) V T1 y):=hy.weak fun _ _=>trivial;replace HW:=iH (tW HW.out hb);clear hb hy)
  |(refine aV rfl 37 _ _ rfl V.heap.size (aL y) rfl rfl 37 _ (aC _ _) aF rfl (cE y) ?_;intro w2 h2 k2;have hb:=(Below.newly' V (.cells #[.int .i64 0,.int .i64 0,.string ⟨#[]⟩,.pointer none] 37)).trans (k2.below (aA _));have HX2:=iH h2;have bo:=iH (HY.out.later hb);replace HW:=iH (tW HW.out hb);clear h2 k2 hb)
  |(go_at_call 20;(with_reducible refine(uy.out _ HW.out).mono ?_);rintro r V3 ⟨E,rfl,he,hb⟩;have HE:=iH he.at;have be:=iH (kW hb HX2.out);have dp:=iH (bo.out.later hb);replace HW:=iH (tW HW.out hb);clear hb he)
  |(refine aV rfl 37 _ _ rfl V3.heap.size #[.int .i64 0,.int .i64 0,.string ⟨#[]⟩,.pointer none] rfl rfl 37 _ (aC _ _) aF rfl uAx ?_;intro w4 h4 k4;have hb:=(Below.newly' V3 (.cells #[.int .i64 0,.int .i64 0,.string ⟨#[]⟩,.pointer none] 37)).trans (k4.below (aA _));have bw:=iH (kW hb be.out);have gg:=iH (dp.out.later hb);have If:=iH (HE.out.later hb);replace HW:=iH (tW HW.out hb);clear h4 k4 hb)
  |(refine aW uAz 37 _ rfl V.heap.size rfl 37 _ _ _ bw.out Tryz.underlying37 rfl aF ?_)
  |(go_at_call 32;(with_reducible refine(o7.out _ y gg.out).mono ?_);rintro r w5 ⟨rfl,hb⟩;have fg:=iH (kW hb bw.out);have gk:=iH (gg.out.later hb);have Gn:=iH (If.out.later hb);replace HW:=iH (tW HW.out hb);clear hb)
  |(refine aW uAz 37 _ rfl V.heap.size rfl 37 _ _ _ fg.out Tryz.underlying37 rfl aF ?_)
  |(go_at_call 17;(with_reducible refine(Ag.out _ y HW.out gk.out).mono ?_);rintro r w6 ⟨rfl,hb⟩;have zn:=iH (Gn.out.later hb);replace HW:=iH (tW HW.out hb);clear hb)
  |(go_at_call 24;(with_reducible refine(Gu.out _ _ HW.out zn.out).mono ?_);rintro r w7 ⟨rfl,hb⟩;replace HW:=iH (tW HW.out hb);clear hb)
  |(go_at_call 25;(with_reducible refine(bd.out _ HW.out).mono ?_);rintro r w8 ⟨rfl,hb⟩;replace HW:=iH (tW HW.out hb);clear hb)
  |(go_at_call 25;(with_reducible refine(yj.out _ HW.out).mono ?_);rintro r w9 ⟨rfl,hb⟩;replace HW:=iH (tW HW.out hb);clear hb))
 go_ret;exact⟨rfl,HW.out⟩
open Go.ChangeShapes Go.WideShapes Go.ChangeAt
theorem aFv {W:World} (h:laidMetH Tryz.prog Rows.codecEncodesRow.laid W):iF W:=by
 have h':=(aBE.1 h).1;have ht:Lib.TabIs Tryz.prog W "math/bits.deBruijn32tab" .u8 (Lib.deBruijn32tab.map fun n:Nat=>(n:Int)):=
  Lib.tabIs_of_head (rest:=(Rows.codecEncodesRow.laid.filter fun x=>x.2.handleName?.isNone).drop (0+1)) (g:=4) (t:=336) (e:=5) (n:=32) uAu uAu Tryz.underlying336 Tryz.underlying5 uAu uAu (sN 0 h')
 intro j hj;have h1:=ht.cell (g:=4) uAu j (by simpa[Lib.deBruijn32tab]using hj);rw[h1];congr 2
 rw[List.getD_eq_getElem?_getD,List.getD_eq_getElem?_getD,List.getElem?_map];cases Lib.deBruijn32tab[j]? <;>rfl
theorem t14_of_laid {W:World} (h:laidMetH Tryz.prog Rows.codecEncodesRow.laid W):T14 W:=⟨aGV h,aGU h,aFv h⟩
end Go.Proofs.YthmfgidbcghnfaaGreatDoor
