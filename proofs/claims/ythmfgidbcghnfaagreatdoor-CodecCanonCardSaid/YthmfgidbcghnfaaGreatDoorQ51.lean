import Derived.Test.YthmfgidbcghnfaaGreatDoorQ0
import Derived.Test.YthmfgidbcghnfaaGreatDoorQ49
import Derived.Test.YthmfgidbcghnfaaGreatDoorQ50
set_option maxRecDepth 1000000
set_option maxHeartbeats 8000000
set_option linter.unusedSimpArgs false
namespace Go.Proofs.YthmfgidbcghnfaaGreatDoor
open Go.RowKit
def aSf (l:List UInt8):Bool:=match jO l with
 | .error _=>false
 | .ok t=>eY t==l
theorem aQ4 {l:List UInt8} (hl:l.length<=1048576):aDg l=aSf l:=by
 have lq:=wX l 0 (aS _);unfold aDg aSf;cases ht:mG l 0 with
 |error q=>unfold jO;rw[if_neg hO,ht]
 |ok R=>
  rw[ht]at lq;obtain⟨h1,h2,h3,h4,h5⟩:=lq;simp only;by_cases h:eY R.1=l
  ·have:=zC h1 h2 h3 (by rw[h];exact hl)
   rw[h]at this;rw[this]
  ·rw[aE.2 h]
   unfold jO;rw[if_neg hO,ht];simp only;split
   ·rfl
   ·rename_i t hh
    split at hh
    ·cases hh
    ·split at hh
     ·cases hh
     ·simp only[cM]at hh
      subst hh;exact(aE.2 h).symm
theorem aOl {l:List UInt8} {q:Nat×Int} (h:jO l=.error q):q.1<=l.length/\q.2≠0:=by
 unfold jO at h;split at h
 ·simp only[nP]at h
  rw[<-h];exact⟨aS _,by decide⟩
 ·have lq:=wX l 0 (aS _)
  cases ht:mG l 0 with
  |error p=>
   rw[ht]at h lq;simp only[nP]at h;rw[<-h];exact lq
  |ok R=>
   obtain⟨t2,e⟩:=R;rw[ht]at h lq;obtain⟨_,_,_,_,he⟩:=lq;simp only at h he;split at h
   ·simp only[nP]at h
    rename_i hn
    have hb:nxR l e=.error (cB l e).2:=by unfold nxR;rw[if_pos hn]
    have:=tV he hb;rw[<-h];exact this
   ·split at h
    ·rename_i hn hk
     simp only[nP]at h;have h0:(cB l e).2.2=0:=Classical.byContradiction fun c=>hn c
     have:=sA l e he h0;rw[<-h];exact⟨by simp only;omega,by simp⟩
    ·cases h
theorem codecCanon_walk (s:Nat) (bb:Int) (x:ByteArray) (hs:s<18446744073709551616) (_:x.size<=maxLen) (w:World) (hT:T14 w):
  Calls Tryz.prog 8 #[.agg #[.int .u64 (s:Int),.int .i64 bb],.string x] w fun e w'=>e=.returned (.bool true)/\Below w.heap.size w w':=by
 have mb:=iH (fun W (hb:Below w.heap.size w W)=>xF W (hT.below hb));obtain⟨w1,ag⟩:∃w1,w.alloc (.cells #[.int .u64 (s:Int),.int .i64 bb] 24)=w1:=⟨_,rfl⟩
 obtain⟨af,dr,al⟩:=fH ag;have HW:Hid (Below w.heap.size w w1):=af;have bd:=iH dr;by_cases hx:4000<x.size
 ·have Sr:(4000:Int)<(x.size:Int):=by omega
  clear af dr al hx hT;go_enter Tryz.func8,Tryz.ntmps8;exact Ad8
 have Sr:¬(4000:Int)<(x.size:Int):=by omega
 have hl:x.data.toList.length=x.size:=cY x;have Tm:=fun W (hb:Below w.heap.size w W) (z:ByteArray) (hz:z.size<=2000000)=>tB s bb z W (hT.below hb).1 (hT.below hb).2.2 hz hs
 have Tn:=fun W (hb:Below w.heap.size w W) (z:ByteArray) (hz:z.size<=2000000)=>aDc z W (hT.below hb).1 (hT.below hb).2.1 (hT.below hb).2.2 hz
 have ep:=aQ4 (l:=x.data.toList) hO;cases hp:jO x.data.toList with
 |error q=>
  have FE:aDg x.data.toList=false:=by rw[ep];unfold aSf;rw[hp]
  have rf:Hid (∀W,Below w.heap.size w W->Calls Tryz.prog 20 #[.agg #[.int .u64 (s:Int),.int .i64 bb],.string x] W fun e w'=>∃E,e=.returned (.tuple #[.agg #[.int .i64 0,.int .i64 0,.string ⟨#[]⟩,.pointer none],E])/\fR W.heap.size w' E q.2 (q.1:Int)/\Below W.heap.size W w'):=fun W hb=>by
   have h:=Tm W hb x hO;rw[hp]at h;exact h
  have MC:Hid (∀W,Below w.heap.size w W->Calls Tryz.prog 25 #[.string x] W fun e w'=>e=.returned (.bool false)/\Below W.heap.size W w'):=fun W hb=>by
   have h:=Tn W hb x hO;rw[FE]at h;exact h
  have o7:Hid (∀W,Calls Tryz.prog 32 #[.agg #[.int .i64 0,.int .i64 0,.string ⟨#[]⟩,.pointer none]] W fun e w'=>e=.returned (.int .i64 0)/\Below W.heap.size W w'):=fun W=>iQ W ⟨0,0,⟨#[]⟩,none⟩
  have hq:=aOl hp;have D4:Hid (q.2≠0):=hq.2;have Lc:(0:Int)<=(q.1:Int):=by omega
  have tf:(q.1:Int)<=(x.size:Int):=by have:=hq.1;omega
  have Kz:Hid (∀W E,Below w.heap.size w W->rH W E q.2 (q.1:Int)->Calls Tryz.prog 31 #[E] W fun e w'=>e=.returned (.tuple #[.int .i64 (q.1:Int),.bool true])/\Below W.heap.size W w'):=fun W E hb hE=>by
   rcases hE with h|⟨h0,l,h1,h2⟩
   ·exact absurd h.1 D4.out
   ·exact aCT E (some q.2) l _ W (hT.below hb).1.et h1 (aA _) h2
  clear Tm Tn ep FE hp hq af dr al hx hT hl hs;go_enter Tryz.func8,Tryz.ntmps8;go_upto_region 1 with fail
  clear ag;go_wp2_with (first
   |(go_at_call 13;(with_reducible refine(mb.out _ HW.out).mono ?_);rintro r wL ⟨rfl,hb⟩;replace bd:=iH (kW hb bd.out);replace HW:=iH (tW HW.out hb);clear hb)
   |(refine aW uAz 24 _ rfl w.heap.size rfl 24 _ _ _ bd.out Tryz.underlying24 rfl gQ ?_)
   |(go_at_call 20;(with_reducible refine(rf.out _ HW.out).mono ?_);rintro r V ⟨E,rfl,he,hb⟩;have HE:=iH he.v;obtain⟨Eb,rfl⟩:=he.shape D4.out;replace bd:=iH (kW hb bd.out);replace HW:=iH (tW HW.out hb);clear hb he)
   |(refine aV rfl 37 _ _ rfl V.heap.size #[.int .i64 0,.int .i64 0,.string ⟨#[]⟩,.pointer none] rfl rfl 37 _ (aC _ _) aF rfl uAx ?_;intro w4 h4 k4;have hb:=(Below.newly' V (.cells #[.int .i64 0,.int .i64 0,.string ⟨#[]⟩,.pointer none] 37)).trans (k4.below (aA _));have bw:=iH h4;have If:=iH (HE.out.later hb);replace bd:=iH (kW hb bd.out);replace HW:=iH (tW HW.out hb);clear h4 k4 hb)
   |(go_at_call 31;(with_reducible refine(Kz.out _ _ HW.out If.out).mono ?_);rintro r w5 ⟨rfl,hb⟩;have fg:=iH (kW hb bw.out);replace bd:=iH (kW hb bd.out);replace HW:=iH (tW HW.out hb);clear hb)
   |(go_at_call 25;(with_reducible refine(MC.out _ HW.out).mono ?_);rintro r w6 ⟨rfl,hb⟩;have HX6:=iH (kW hb fg.out);replace bd:=iH (kW hb bd.out);replace HW:=iH (tW HW.out hb);clear hb)
   |(refine aW uAz 37 _ rfl V.heap.size rfl 37 _ _ _ HX6.out Tryz.underlying37 rfl aF ?_)
   |(go_at_call 32;(with_reducible refine(o7.out _).mono ?_);rintro r w7 ⟨rfl,hb⟩;replace bd:=iH (kW hb bd.out);replace HW:=iH (tW HW.out hb);clear hb))
  go_ret;exact⟨rfl,HW.out⟩
 |ok t=>
  obtain⟨MD,e2,lq⟩:=aEr hp;have zg:=sJ hp;have N3:=aEe (aS _) lq;have AC:jO (eY t)=.ok t:=zC zg.1.1 zg.1.2.1 zg.1.2.2 (by have:=N3.1;simp only at this;omega);obtain⟨z,hz⟩:∃z:ByteArray,z=⟨(eY t).toArray⟩:=⟨_,rfl⟩
  have lz:z.data.toList=eY t:=by rw[hz]
  have ME:z.size<=16000:=by have h1:=cY z;rw[lz]at h1;have:=N3.1;simp only at this;omega
  have To:aDg x.data.toList=(eY t==x.data.toList):=by unfold aDg;rw[lq]
  have xq:aDg z.data.toList=true:=by rw[lz,aQ4 (by have:=N3.1;simp only at this;omega)];unfold aSf;rw[AC];simp
  have FF:aDg x.data.toList=(z.toList==x.toList):=by rw[To,<-lz,dJ,dJ]
  have rf:Hid (∀W,Below w.heap.size w W->Calls Tryz.prog 20 #[.agg #[.int .u64 (s:Int),.int .i64 bb],.string x] W fun e w'=>∃y,e=.returned (.tuple #[.agg (aL y),.nilIface])/\VAt (fun g=>W.heap.size<=g) w' t y/\Below W.heap.size W w'):=fun W hb=>by
   have h:=Tm W hb x hO;rw[hp]at h;exact h
  have uy:Hid (∀W,Below w.heap.size w W->Calls Tryz.prog 20 #[.agg #[.int .u64 (s:Int),.int .i64 bb],.string z] W fun e w'=>∃y,e=.returned (.tuple #[.agg (aL y),.nilIface])/\VAt (fun g=>W.heap.size<=g) w' t y/\Below W.heap.size W w'):=fun W hb=>by
   have h:=Tm W hb z hO;rw[lz,AC]at h;exact h
  have Oa:Hid (∀W,Below w.heap.size w W->Calls Tryz.prog 25 #[.string x] W fun e w'=>e=.returned (.bool (z.toList==x.toList))/\Below W.heap.size W w'):=fun W hb=>by
   have h:=Tn W hb x hO;rw[FF]at h;exact h
  have FG:Hid (∀W,Below w.heap.size w W->Calls Tryz.prog 25 #[.string z] W fun e w'=>e=.returned (.bool true)/\Below W.heap.size W w'):=fun W hb=>by
   have h:=Tn W hb z hO;rw[xq]at h;exact h
  have Ag:Hid (∀W y,Below w.heap.size w W->VAt (fun _=>True) W t y->Calls Tryz.prog 17 #[.agg (aL y)] W fun e w'=>e=.returned (.string z)/\Below W.heap.size W w'):=fun W y hb hy=>by
   have h:=xN t y W (hT.below hb).1.1 (hT.below hb).2.1 (hT.below hb).2.2 hy zg;rw[<-hz]at h;exact h
  have rn:Hid (∀W y,Below w.heap.size w W->VAt (fun _=>True) W t y->Calls Tryz.prog 30 #[.agg (aL y)] W fun e w'=>e=.returned (.string (kB t))/\Below W.heap.size W w'):=fun W y hb hy=>aIW W t y zg hy (hT.below hb).2.2
  clear Tm Tn ep hp af dr al hx hT hl hs MD lq zg N3 AC hz lz ME To xq FF;go_enter Tryz.func8,Tryz.ntmps8;go_upto_region 1 with fail
  clear ag;go_upto_region 9 with(first
   |(go_at_call 13;(with_reducible refine(mb.out _ HW.out).mono ?_);rintro r wL ⟨rfl,hb⟩;replace bd:=iH (kW hb bd.out);replace HW:=iH (tW HW.out hb);clear hb)
   |(refine aW uAz 24 _ rfl w.heap.size rfl 24 _ _ _ bd.out Tryz.underlying24 rfl gQ ?_)
   |(go_at_call 20;(with_reducible refine(rf.out _ HW.out).mono ?_);rintro r V ⟨y,rfl,hy,hb⟩;have HY:Hid (VAt (fun _=>True) V t y):=hy.weak fun _ _=>trivial;replace bd:=iH (kW hb bd.out);replace HW:=iH (tW HW.out hb);clear hb hy)
   |(refine aV rfl 37 _ _ rfl V.heap.size (aL y) rfl rfl 37 _ (aC _ _) aF rfl (cE y) ?_;intro w4 h4 k4;have hb:=(Below.newly' V (.cells #[.int .i64 0,.int .i64 0,.string ⟨#[]⟩,.pointer none] 37)).trans (k4.below (aA _));have bw:=iH h4;have gg:=iH (HY.out.later hb);replace bd:=iH (kW hb bd.out);replace HW:=iH (tW HW.out hb);clear h4 k4 hb)
   |(refine aW uAz 37 _ rfl V.heap.size rfl 37 _ _ _ bw.out Tryz.underlying37 rfl aF ?_)
   |(go_at_call 17;(with_reducible refine(Ag.out _ y HW.out gg.out).mono ?_);rintro r w6 ⟨rfl,hb⟩;have HX6:=iH (kW hb bw.out);have pk:=iH (gg.out.later hb);replace bd:=iH (kW hb bd.out);replace HW:=iH (tW HW.out hb);clear hb)
   |(go_at_call 20;(with_reducible refine(uy.out _ HW.out).mono ?_);rintro r V8 ⟨y2,rfl,hy,hb⟩;have I4:=iH (kW hb HX6.out);have K2:=iH (pk.out.later hb);have I5:Hid (VAt (fun _=>True) V8 t y2):=hy.weak fun _ _=>trivial;replace bd:=iH (kW hb bd.out);replace HW:=iH (tW HW.out hb);clear hb hy)
   |(refine aV rfl 37 _ _ rfl V8.heap.size (aL y2) rfl rfl 37 _ (aC _ _) aF rfl (cE y2) ?_;intro w5 h5 k5;have hb:=(Below.newly' V8 (.cells #[.int .i64 0,.int .i64 0,.string ⟨#[]⟩,.pointer none] 37)).trans (k5.below (aA _));have rv:=iH (kW hb I4.out);have fg:=iH h5;have gk:=iH (K2.out.later hb);have sa:=iH (I5.out.later hb);replace bd:=iH (kW hb bd.out);replace HW:=iH (tW HW.out hb);clear h5 k5 hb))
  obtain⟨Y5,FH⟩:∃Y5,Y5=V.heap.size:=⟨_,rfl⟩
  obtain⟨Tp,Tq⟩:∃Tp,Tp=V8.heap.size:=⟨_,rfl⟩
  rw[<-FH]at rv ⊢;rw[<-Tq]at fg ⊢;have ar:Hid (∀V,Below w5.heap.size w5 V->V.heap[Y5]? =some (.cells (aL y) 37 (0,0))/\V.heap[Tp]? =some (.cells (aL y2) 37 (0,0))):=fun V hV=>⟨(kW hV rv.out),(kW hV fg.out)⟩
  have ox:Hid (∀V,Below w5.heap.size w5 V->Calls Tryz.prog 30 #[.agg (aL y)] V fun e w'=>e=.returned (.string (kB t))/\Below V.heap.size V w'):=fun V hV=>rn.out V y (tW HW.out hV) (gk.out.later hV)
  have du:Hid (∀V,Below w5.heap.size w5 V->Calls Tryz.prog 30 #[.agg (aL y2)] V fun e w'=>e=.returned (.string (kB t))/\Below V.heap.size V w'):=fun V hV=>rn.out V y2 (tW HW.out hV) (sa.out.later hV)
  have AD:Hid (∀V,Below w5.heap.size w5 V->Calls Tryz.prog 25 #[.string x] V fun e w'=>e=.returned (.bool (z.toList==x.toList))/\Below V.heap.size V w'):=fun V hV=>Oa.out V (tW HW.out hV)
  have yj:Hid (∀V,Below w5.heap.size w5 V->Calls Tryz.prog 25 #[.string z] V fun e w'=>e=.returned (.bool true)/\Below V.heap.size V w'):=fun V hV=>FG.out V (tW HW.out hV)
  have HB:Hid (Below w5.heap.size w5 w5.drew):=aY w5;clear FH Tq bd rn Oa FG Ag rf uy rv fg gk sa K2 I5 I4 HX6 pk bw gg HY;refine bO (S:=(fun V=>V.heap[Y5]? =some (.cells (aL y) 37 (0,0))/\V.heap[Tp]? =some (.cells (aL y2) 37 (0,0)))) [] uAu uKz (fun ab=> ?_);obtain⟨wd,j9⟩:∃wd,wd=w5.drew:=⟨_,rfl⟩
  rw[<-j9]at HB ab ⊢;clear j9;refine tkL 0 61 (h:=?_);refine tkL 1 62 (h:=?_);(try simp only[pq]);refine tkL 2 63 (h:=?_);refine tyL 3 64 (hy:=aJ uAz 37 _ rfl Y5 rfl (aL y) 37 (0,0) _ (fun w hw=>hw.1) Tryz.underlying37 rfl uCu) (h:=?_);(try simp only[pq]);refine tyL 5 66 (hy:=aJ uAz 37 _ rfl Tp rfl (aL y2) 37 (0,0) _ (fun w hw=>hw.2) Tryz.underlying37 rfl uCu) (h:=?_);(try simp only[pq]);refine tkO 4 (some 65) (h:=fun K hK=> ?_);go_simp;go_at_call 30;(with_reducible refine(ox.out _ HB.out).mono ?_);rintro r wC ⟨rfl,hb⟩;replace HB:=iH (tW HB.out hb);clear hb;dsimp only;refine hK.out _ _ uKz (fun ab=> ?_);clear hK K;(try simp only[pq]);refine tkO 6 (some 67) (h:=fun K hK=> ?_);go_simp;go_at_call 30;(with_reducible refine(du.out _ HB.out).mono ?_);rintro r wC ⟨rfl,hb⟩;replace HB:=iH (tW HB.out hb);clear hb;dsimp only;refine hK.out _ _ uKz (fun ab=> ?_);clear hK K;(try simp only[pq]);refine tkL 7 68 (h:=?_);refine tkL 8 69 (h:=?_);(try simp only[pq]);refine tkL 9 70 (h:=?_);refine tkL 10 71 (h:=?_);(try simp only[pq]);refine tkO 11 (some 72) (h:=fun K hK=> ?_);go_simp;go_at_call 25;(with_reducible refine(yj.out _ HB.out).mono ?_);rintro r wC ⟨rfl,hb⟩;replace HB:=iH (tW HB.out hb);clear hb;dsimp only;refine hK.out _ _ uKz (fun ab=> ?_);clear hK K;(try simp only[pq]);refine tkL 12 73 (h:=?_);refine tkL 13 74 (h:=?_);(try simp only[pq]);refine tkL 14 75 (h:=?_);refine tkL 16 77 (h:=?_);(try simp only[pq]);refine tkL 17 78 (h:=?_);refine tkL 18 79 (h:=?_);(try simp only[pq]);refine tkO 15 (some 76) (h:=fun K hK=> ?_);go_simp;go_at_call 25;(with_reducible refine(AD.out _ HB.out).mono ?_);rintro r wC ⟨rfl,hb⟩;replace HB:=iH (tW HB.out hb);clear hb;dsimp only;refine hK.out _ _ uKz (fun ab=> ?_);clear hK K;(try simp only[pq]);refine tkL 19 80 (h:=?_);refine tkL 20 81 (h:=?_)
  (try simp only[pq]);refine tkL 21 4 (h:=?_);(try simp only[pq]);refine bJ uAu ?_ _;go_wp2_with fail
  go_ret;exact⟨nN uAy,tW HW.out HB.out⟩
end Go.Proofs.YthmfgidbcghnfaaGreatDoor
