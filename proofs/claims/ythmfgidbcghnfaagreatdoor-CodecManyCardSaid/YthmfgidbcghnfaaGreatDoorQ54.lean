import Derived.Test.YthmfgidbcghnfaaGreatDoorQ0
import Derived.Test.YthmfgidbcghnfaaGreatDoorQ53
set_option maxRecDepth 1000000
set_option maxHeartbeats 8000000
set_option linter.unusedSimpArgs false
namespace Go.Proofs.YthmfgidbcghnfaaGreatDoor
open Go.RowKit
theorem codecMany_walk (s:Nat) (bb d:Int) (hs:s<18446744073709551616) (_:(Lit.int .i64 d).wf=true) (w:World) (hT:T14 w):
  Calls Tryz.prog 12 #[.agg #[.int .u64 (s:Int),.int .i64 bb],.int .i64 d] w fun e w'=>e=.returned (.bool true)/\Below w.heap.size w w':=by
 have mb:=iH (fun W (hb:Below w.heap.size w W)=>xF W (hT.below hb));obtain⟨w1,ag⟩:∃w1,w.alloc (.cells #[.int .u64 (s:Int),.int .i64 bb] 24)=w1:=⟨_,rfl⟩
 obtain⟨af,dr,al⟩:=fH ag;have HW:Hid (Below w.heap.size w w1):=af;have bd:=iH dr;clear af dr al;by_cases h1:d<0
 ·clear hT
  go_enter Tryz.func12,Tryz.ntmps12;exact Aa6
 by_cases h2:16484<d
 ·clear hT
  go_enter Tryz.func12,Tryz.ntmps12;exact Aa6
 obtain⟨m,rfl⟩:∃m:Nat,d=(m:Int):=⟨d.toNat,by omega⟩
 have HM:Hid (m<=16484):=by show _<=_;omega
 have HT:=iH (fun W (hb:Below w.heap.size w W)=>hT.below hb);have Sz:=iH hs;clear hT hs;go_enter Tryz.func12,Tryz.ntmps12;go_upto_region 1 with fail
 clear ag;go_upto_region 3 with(go_at_call 13;(with_reducible refine(mb.out _ HW.out).mono ?_);rintro r wL ⟨rfl,hb⟩;replace bd:=iH (kW hb bd.out);replace HW:=iH (tW HW.out hb);have s9:=iH bd.out;clear hb)
 go_upto_region 4 with fail
 obtain⟨B,hB⟩:∃B,B=wL.heap.size:=⟨_,rfl⟩
 obtain⟨wS,Tu⟩:∃wS,wS=wL.alloc (.cells #[.int .u8 91] 5):=⟨_,rfl⟩
 have mw:=Buf.lit (w:=wL) (aA _) #[.int .u8 91] [91] rfl uAv;have hb:=Below.newly' wL (.cells #[.int .u8 91] 5);rw[<-Tu]at mw hb ⊢;replace bd:=iH (kW hb bd.out);replace HW:=iH (tW HW.out hb);rw[<-hB]at mw ⊢;have zy:Hid (w.heap.size<B/\B<=wS.heap.size):=⟨by rw[hB];exact(gZ s9.out),by rw[hB];exact hb.size⟩
 have sq:=iH mw;clear hB Tu mw hb s9;go_wp2_with fail
 go_loopw [5,22] (fun b i W=>∃(j:Nat) (v:Value),j<=m/\i=.int .i64 (j:Int)/\v=b/\Buf B v (oS j) W/\Below B wS W) (fun _ i _=>m-(intOf i).toNat)
 case atStart=>exact⟨0,_,aS _,rfl,rfl,by unfold oS;rw[List.replicate_zero,kU];exact sq.out,bB _ _⟩
 case round=>
  obtain⟨j,b,hj,rfl,rfl,ot,bf⟩:=hrel;have I9:=iH ot;have jt:=iH bf;clear ot bf;by_cases hlt:j<m
  case pos=>
   have l0:(j:Int)<(m:Int):=by omega
   have ew:=iH hlt;have df:=aMh j;obtain⟨t0,mi⟩:∃t,t=oS j:=⟨_,rfl⟩
   have nr:Hid (t0.length<=40000):=by have h:=vQ j;have:=HM.out;rw[aB,aD,aK,<-mi]at h;show _<=_;omega
   rw[<-mi]at I9 df;by_cases Gc:0<j
   case pos=>
    have Bc:(0:Int)<(j:Int):=by omega
    have ng:Hid (oS (j+1)=t0++([44]++[55])):=by show _=_;rw[df,if_pos Gc]
    clear hlt df mi Gc;go_wp2_with (first
     |(at_builtin;(refine cT rfl _ _ rfl rfl I9.out [44] _ rfl 1 1 rfl rfl uDx ?_);intro v2 w2 ah cw;have aq:=iH ah;have fu:=iH cw;clear ah cw)
     |(at_builtin;(refine cT rfl _ _ rfl rfl aq.out [55] _ rfl 1 1 rfl rfl uDx ?_);intro v3 w3 ah cw;have av:=iH ah;have na:=iH cw;clear ah cw))
    go_roundw
    case rel=>exact⟨j+1,_,by have:=ew.out;omega,by go_num,rfl,by have h:=av.out;rw[ng.out];simpa using h,jt.out.trans (fu.out.trans na.out)⟩
    case measure=>have:=ew.out;simp[intOf];omega
   have Bc:¬(0:Int)<(j:Int):=by omega
   have ng:Hid (oS (j+1)=t0++[55]):=by show _=_;rw[df,if_neg Gc];simp
   clear hlt df mi Gc;go_wp2_with (at_builtin;(refine cT rfl _ _ rfl rfl I9.out [55] _ rfl 1 1 rfl rfl uDx ?_);intro v3 w3 ah cw;have av:=iH ah;have na:=iH cw;clear ah cw)
   go_roundw
   case rel=>exact⟨j+1,_,by have:=ew.out;omega,by go_num,rfl,by have h:=av.out;rw[ng.out];simpa using h,jt.out.trans na.out⟩
   case measure=>have:=ew.out;simp[intOf];omega
  obtain rfl:m=j:=by omega
  have l0:¬(m:Int)<(m:Int):=by omega
  clear hlt hj;have nr:Hid ((oS m).length<=40000):=by have h:=vQ m;have:=HM.out;rw[aB,aD,aK]at h;show _<=_;omega
  have yj:Hid (wr.heap[w.heap.size]? =some (.cells #[.int .u64 (s:Int),.int .i64 bb] 24 (0,0))):=(jt.out.block _ zy.out.1).trans bd.out;have fy:Hid (Below w.heap.size w wr):=HW.out.trans (jt.out.mono (eH zy.out.1));clear jt bd sq;obtain⟨S0,zl⟩:∃S0:ByteArray,S0=⟨(oS m++[93]).toArray⟩:=⟨_,rfl⟩
  have p8:S0.data.toList=oS m++[93]:=by rw[zl]
  have Bg:S0.size<=40000:=by have h:=cY S0;rw[p8]at h;have h2:=vQ m;have:=HM.out;omega
  have Ja:=fun W v (hq:Buf B v (oS m++[93]) W)=>hq.str
  rw[<-zl]at Ja;have Jb:=iH Ja;have el:=fun W (hW:Below w.heap.size w W)=>tB s bb S0 W (HT.out W hW).1 (HT.out W hW).2.2 hO Sz.out
  rw[p8]at el;by_cases Iu:m<16384
  ·have L7:(m:Int)<16384:=by omega
   have qy:=aRr m Iu;rw[qy]at el;obtain⟨t,ht⟩:∃t,t=zH m:=⟨_,rfl⟩
   have zg:fQ t:=by rw[ht];exact sJ qy
   have Dw:t.xs.length=m:=by rw[ht];show(List.replicate m aAf).length=m;simp
   have oh:eW t=m+1:=by rw[ht,zH,eW,aHx]
   rw[<-ht]at el;have oq:Hid (∀W,Below w.heap.size w W->Calls Tryz.prog 20 #[.agg #[.int .u64 (s:Int),.int .i64 bb],.string S0] W fun e w'=>∃y,e=.returned (.tuple #[.agg (aL y),.nilIface])/\VAt (fun g=>W.heap.size<=g) w' t y/\Below W.heap.size W w'):=el;have fw:Hid (∀W y,VAt (fun _=>True) W t y->Calls Tryz.prog 37 #[.agg (aL y)] W fun e w'=>e=.returned (.int .i64 (m:Int))/\Below W.heap.size W w'):=fun W y hy=>by
    have h:=aFh W t y zg hy;rw[Dw]at h;exact h
   have Z9:Hid (∀W y,VAt (fun _=>True) W t y->Calls Tryz.prog 38 #[.agg (aL y)] W fun e w'=>e=.returned (.int .i64 ((m:Int)+1))/\Below W.heap.size W w'):=fun W y hy=>by
    have h:=aGG W t y zg hy;rw[oh]at h;exact h
   clear el qy Dw oh zg ht zl p8 Bg Ja Iu;go_wp2_with (first
    |(at_builtin;(refine cT rfl _ _ rfl rfl I9.out [93] _ rfl 1 1 rfl rfl uDx ?_);intro v4 w4 ah cw;have bg:=iH ah;have pb:=iH cw;clear ah cw)
    |(refine aW uAz 24 _ rfl w.heap.size rfl 24 _ _ _ ((pb.out.block _ zy.out.1).trans yj.out) Tryz.underlying24 rfl gQ ?_;have z8:=Jb.out w4 v4 bg.out;replace fy:=iH (fy.out.trans (pb.out.mono (eH zy.out.1))))
    |(go_at_call 20;(with_reducible refine(oq.out _ fy.out).mono ?_);rintro r V ⟨y,rfl,hy,hb⟩;have HY:Hid (VAt (fun _=>True) V t y):=hy.weak fun _ _=>trivial;replace fy:=iH (tW fy.out hb);clear hb hy)
    |(refine aV rfl 37 _ _ rfl V.heap.size (aL y) rfl rfl 37 _ (aC _ _) aF rfl (cE y) ?_;intro w5 h5 k5;have hb:=(Below.newly' V (.cells #[.int .i64 0,.int .i64 0,.string ⟨#[]⟩,.pointer none] 37)).trans (k5.below (aA _));have fg:=iH h5;have gk:=iH (HY.out.later hb);replace fy:=iH (tW fy.out hb);clear h5 k5 hb)
    |(refine aW uAz 37 _ rfl V.heap.size rfl 37 _ _ _ fg.out Tryz.underlying37 rfl aF ?_)
    |(go_at_call 37;(with_reducible refine(fw.out _ y gk.out).mono ?_);rintro r w6 ⟨rfl,hb⟩;have HX6:=iH (kW hb fg.out);have pk:=iH (gk.out.later hb);replace fy:=iH (tW fy.out hb);clear hb)
    |(refine aW uAz 37 _ rfl V.heap.size rfl 37 _ _ _ HX6.out Tryz.underlying37 rfl aF ?_)
    |(go_at_call 38;(with_reducible refine(Z9.out _ y pk.out).mono ?_);rintro r w7 ⟨rfl,hb⟩;replace fy:=iH (tW fy.out hb);clear hb))
   go_ret;exact⟨nN uAy,fy.out⟩
  have L7:¬(m:Int)<16384:=by omega
  rw[aRs m hO (by have:=HM.out;omega)]at el;have oq:Hid (∀W,Below w.heap.size w W->Calls Tryz.prog 20 #[.agg #[.int .u64 (s:Int),.int .i64 bb],.string S0] W fun e w'=>∃E,e=.returned (.tuple #[.agg #[.int .i64 0,.int .i64 0,.string ⟨#[]⟩,.pointer none],E])/\fR W.heap.size w' E 8 32767/\Below W.heap.size W w'):=el;have Gu:Hid (∀W E,Below w.heap.size w W->rH W E 8 32767->Calls Tryz.prog 24 #[E,.int .i64 32767,.int .i64 8] W fun e w'=>e=.returned (.bool true)/\Below W.heap.size W w'):=fun W E hb hE=>aOP E 8 32767 W hE (HT.out W hb).1.et
  clear el zl p8 Bg Ja Iu;go_wp2_with (first
   |(at_builtin;(refine cT rfl _ _ rfl rfl I9.out [93] _ rfl 1 1 rfl rfl uDx ?_);intro v4 w4 ah cw;have bg:=iH ah;have pb:=iH cw;clear ah cw)
   |(refine aW uAz 24 _ rfl w.heap.size rfl 24 _ _ _ ((pb.out.block _ zy.out.1).trans yj.out) Tryz.underlying24 rfl gQ ?_;have z8:=Jb.out w4 v4 bg.out;replace fy:=iH (fy.out.trans (pb.out.mono (eH zy.out.1))))
   |(go_at_call 20;(with_reducible refine(oq.out _ fy.out).mono ?_);rintro r V ⟨E,rfl,he,hb⟩;have HE:=iH he.v;replace fy:=iH (tW fy.out hb);clear hb he)
   |(refine aV rfl 37 _ _ rfl V.heap.size #[.int .i64 0,.int .i64 0,.string ⟨#[]⟩,.pointer none] rfl rfl 37 _ (aC _ _) aF rfl uAx ?_;intro w5 h5 k5;have hb:=(Below.newly' V (.cells #[.int .i64 0,.int .i64 0,.string ⟨#[]⟩,.pointer none] 37)).trans (k5.below (aA _));have Gn:=iH (HE.out.later hb);replace fy:=iH (tW fy.out hb);clear h5 k5 hb)
   |(go_at_call 24;(with_reducible refine(Gu.out _ _ fy.out Gn.out).mono ?_);rintro r w6 ⟨rfl,hb⟩;replace fy:=iH (tW fy.out hb);clear hb))
  go_ret;exact⟨rfl,fy.out⟩
end Go.Proofs.YthmfgidbcghnfaaGreatDoor
