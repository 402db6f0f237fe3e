import Derived.Test.YtengibnpebfblaaGreatDoorQ0
import Derived.Test.YtengibnpebfblaaGreatDoorQ30
set_option maxRecDepth 1000000
set_option maxHeartbeats 8000000
set_option linter.unusedSimpArgs false
namespace Go.Proofs.YtengibnpebfblaaGreatDoor
open Go.RowKit
theorem aIG (a:Tr):xV a->jQ 200 a:=by
 induction a using fS with
 |h k n t ks xs ih=>
  intro h;rw[xV,aGG]at h;exact eT.2 ⟨h.1,h.2.1,fun x hx=>ih x hx (h.2.2 x hx)⟩
theorem aK0 {B C:Nat} (hBC:B<=C) (a:Tr):jQ B a->jQ C a:=by
 induction a using fS with
 |h k n t ks xs ih=>
  intro h;obtain⟨h1,h2,h3⟩:=eT.1 h;exact eT.2 ⟨aG h1 hBC,fun y hy=>aG (h2 y hy) hBC,fun x hx=>ih x hx (h3 x hx)⟩
theorem aNF (M:Nat) (a:Tr):∀d l,(smT a d l).2=true->l+50<=M->pF M a:=by
 induction a using fS with
 |h k n t ks xs ih=>
  intro d l h hM;rw[smT]at h;split at h
  ·cases h
  split at h
  ·cases h
  rename_i hc _
  have hL:∀(ys:List Tr),(∀x∈ys,∀d l,(smT x d l).2=true->l+50<=M->pF M x)->∀d l,(smL ys d l).2=true->l+50<=M->∀x∈ys,pF M x:=by
   intro ys;induction ys with
   |nil=>intro _ _ _ _ _ x hx;cases hx
   |cons y ys ihy=>
    intro hy d l h hM;rw[smL]at h;split at h
    ·rename_i h1
     have h2:=aDQ y d l h1;intro x hx;rcases bA.1 hx with rfl|hx
     ·exact hy _ (aW ..) d l h1 hM
     ·exact ihy (fun z hz=>hy z (aU _ hz)) d _ h uAu x hx
    ·cases h
  refine sI.2 ⟨?_,hL xs (fun x hx=>ih x hx) (d+1) (l-1) h uAu⟩;show ks.length<=M;omega
theorem aFM {S:Nat->Prop} {c:Array Value} {l:List Cel} (W:World) (h:dS S W c l) (i:Nat) (x:Cel) (hi:i<=l.length) (hN:l.length<=50000):
  Calls Tryz.prog 84 #[.agg c,.int .i64 (i:Int),.agg (aX x)] W fun e W'=>∃v,e=.returned v/\∃(hh:Nat) (ks:List Kid),jH (fun g=>S g\/W.heap.size<=g) W' hh v ks/\eV ks=rQ l i x/\aNi hh ks/\Below W.heap.size W W':=by
 rcases h with⟨rfl,rfl⟩|⟨h,p,rfl,rfl,h3,h4⟩
 ·refine(aFN 0 S W (.slice none 0 0) [] i x ⟨rfl,.inl ⟨rfl,rfl⟩⟩ uBu hi).mono ?_
  rintro e W' ⟨v,rfl,ks,h1,h2,h3,h4⟩;exact⟨v,rfl,0,ks,h1.weak fun g hg=>.inr hg,h2,fun p hp=>⟨(h3.2 p hp).1,fun _=>.inl rfl⟩,h4⟩
 ·refine(aCQ h S W p i x (min 2 p.k) h3 hi hN uAu uAu).mono ?_
  rintro e W' ⟨v,rfl,ks,h1,h2,h5,h6,h7⟩;exact⟨v,rfl,h,ks,h1,h2,fun y hy=>⟨(h6 y hy).2,fun _=>h4.imp_right fun h4=>by have:=(h6 y hy).1;omega⟩,h7⟩
theorem aCA {S:Nat->Prop} {c:Array Value} {l:List Cel} (W:World) (h:dS S W c l) (i:Nat) (x:Cel) (hi:i<l.length) (hN:l.length<=50000):
    Calls Tryz.prog 47 #[.agg c,.int .i64 (i:Int),.agg (aX x)] W fun e W'=>∃c',e=.returned (.tuple #[.agg c',.int .i64 0])/\dS (fun g=>S g\/W.heap.size<=g) W' c' (rQ l i x)/\Below W.heap.size W W':=by
  obtain⟨w2,hw2⟩:∃w2,((W.alloc (.cells c 88)).alloc (.cells (aX x) 35)).alloc (.cells #[.int .i64 0,.int .i64 0,.slice none 0 0,.slice none 0 0] 88)=w2:=⟨_,rfl⟩
  obtain⟨hb2,hx2,hv2,hy2,hs2⟩:=lI hw2;have HV2:=iH hv2;have HX2:=iH hx2;have HY2:=iH hy2;have HB2:=iH hb2;have HS2:=iH hs2;have HS:=iH h.size;have HH:=iH (aBh w2 (h.later hb2) (i:Int));rw[show decide (0<=(i:Int)/\(i:Int)<l.length)=true by simp;omega]at HH;have HINS:=iH (fun V (hV:Below W.heap.size W V)=>aFM V (h.old.later hV) i x uAu hN);have HLL:Hid ((rQ l i x).length<=100000):=by show _<=_;unfold rQ;rw[aD,aV,aL,bS];omega
  obtain⟨l',hl'⟩:∃l',l'=rQ l i x:=⟨_,rfl⟩
  rw[<-hl']at HINS HLL ⊢;clear hb2 hx2 hv2 hy2 hs2 h hi hN hl';go_enter Tryz.func47,Tryz.ntmps47;go_upto_region 1 with fail
  clear hw2;go_wp2_with (first
    |(refine bR rfl 35 _ rfl (W.heap.size+1) rfl 35 _ _ _ HV3.out Tryz.underlying35 rfl aR ?_)
    |(refine bR rfl 88 _ rfl W.heap.size rfl 88 _ _ _ HX2.out Tryz.underlying88 rfl uEz ?_)
    |(go_at_call 81
      refine HH.out.mono ?_;rintro e w3 ⟨rfl,hb3⟩;have HX3:=iH ((hb3.block W.heap.size uBw).trans HX2.out);have HV3:=iH ((hb3.block (W.heap.size+1) uBw).trans HV2.out);have HY3:=iH ((hb3.block (W.heap.size+2) uBw).trans HY2.out);have HB3:=iH (tW HB2.out hb3);have HS3:Hid (W.heap.size+3<=w3.heap.size):=uGy
      clear hb3)
    |(refine bR rfl 86 _ rfl W.heap.size rfl 88 _ _ _ HX3.out Tryz.underlying86 rfl uNu ?_)
    |(go_at_call 84
      refine(HINS.out _ HB3.out).mono ?_;rintro e w4 ⟨v4,rfl,hh4,ks,hn4,hc4,hf4,hb4⟩;have HT:=iH (aGL w4 hh4 v4 ks hn4 hf4 (by rw[hc4];exact HLL.out));rw[hc4]at HT;obtain⟨a4,cap4,rfl,_⟩:=hn4.1.shape;have HY4:=iH ((hb4.block (W.heap.size+2) uFw).trans HY3.out);have HB4:=iH hb4;clear hn4 hc4 hf4 hb4)
    |(go_at_call 83
      refine HT.out.mono ?_;rintro e w7 ⟨c7,rfl,hr7,hb7⟩;obtain⟨y0,y1,q1,n1,c1,q2,n2,c2,rfl⟩:=hr7.four;have HR7:=iH hr7;have HB7:=iH hb7;have HY7:=iH ((hb7.block (W.heap.size+2) (by have:=HS3.out;have:=HB4.out.size;omega)).trans HY4.out);clear hr7 hb7)
    |(refine bV rfl 88 _ _ rfl (W.heap.size+2) _ rfl rfl 88 _ HY7.out eL rfl (aMG rfl rfl rfl rfl) ?_;intro w5 h5 k5))
  refine bF (bU rfl _ _ (W.heap.size+2) 88 _ (0,0) _ rfl h5 Tryz.underlying88 rfl eL) rfl ⟨_,rfl,?_,?_⟩
  ·have hs3:=HS3.out
   exact Ae0
  ·have hs3:=HS3.out
   have hs4:=HB4.out.size;exact((HB3.out.trans (HB4.out.mono uAu)).trans (HB7.out.mono uAu)).trans (k5.below uAu)
theorem aCB {S:Nat->Prop} {c:Array Value} {l:List Cel} (W:World) (h:dS S W c l) (i:Nat) (x:Cel) (hi:i=l.length) (hN:l.length<=50000):
    Calls Tryz.prog 47 #[.agg c,.int .i64 (i:Int),.agg (aX x)] W fun e W'=>∃c',e=.returned (.tuple #[.agg c',.int .i64 0])/\dS (fun g=>S g\/W.heap.size<=g) W' c' (rQ l i x)/\Below W.heap.size W W':=by
  obtain⟨w2,hw2⟩:∃w2,((W.alloc (.cells c 88)).alloc (.cells (aX x) 35)).alloc (.cells #[.int .i64 0,.int .i64 0,.slice none 0 0,.slice none 0 0] 88)=w2:=⟨_,rfl⟩
  obtain⟨hb2,hx2,hv2,hy2,hs2⟩:=lI hw2;have HV2:=iH hv2;have HX2:=iH hx2;have HY2:=iH hy2;have HB2:=iH hb2;have HS2:=iH hs2;have HS:=iH h.size;have HH:=iH (aBh w2 (h.later hb2) (i:Int));rw[show decide (0<=(i:Int)/\(i:Int)<l.length)=false by simp;omega]at HH;have HLEN:=iH (fun V (hV:Below W.heap.size W V)=>aDR V (h.later hV));rw[<-hi]at HLEN;have HINS:=iH (fun V (hV:Below W.heap.size W V)=>aFM V (h.old.later hV) i x uAu hN);have HLL:Hid ((rQ l i x).length<=100000):=by show _<=_;unfold rQ;rw[aD,aV,aL,bS];omega
  obtain⟨l',hl'⟩:∃l',l'=rQ l i x:=⟨_,rfl⟩
  rw[<-hl']at HINS HLL ⊢;clear hb2 hx2 hv2 hy2 hs2 h hi hN hl';go_enter Tryz.func47,Tryz.ntmps47;go_upto_region 1 with fail
  clear hw2;go_wp2_with (first
    |(refine bR rfl 35 _ rfl (W.heap.size+1) rfl 35 _ _ _ HV6.out Tryz.underlying35 rfl aR ?_)
    |(refine bR rfl 88 _ rfl W.heap.size rfl 88 _ _ _ HX2.out Tryz.underlying88 rfl uEz ?_)
    |(go_at_call 81
      refine HH.out.mono ?_;rintro e w3 ⟨rfl,hb3⟩;have HX3:=iH ((hb3.block W.heap.size uBw).trans HX2.out);have HV3:=iH ((hb3.block (W.heap.size+1) uBw).trans HV2.out);have HY3:=iH ((hb3.block (W.heap.size+2) uBw).trans HY2.out);have HB3:=iH (tW HB2.out hb3);have HS3:Hid (W.heap.size+3<=w3.heap.size):=uGy
      clear hb3)
    |(refine bR rfl 88 _ rfl W.heap.size rfl 88 _ _ _ HX3.out Tryz.underlying88 rfl uEz ?_)
    |(go_at_call 82
      refine(HLEN.out _ HB3.out).mono ?_;rintro e w6 ⟨rfl,hw6⟩;have HX6:Hid (w6.heap[W.heap.size]? =some (.cells c 88 (0,0))):=uFv
      have HV6:Hid (w6.heap[W.heap.size+1]? =some (.cells (aX x) 35 (0,0))):=uEx
      have HY6:Hid (w6.heap[W.heap.size+2]? =some (.cells #[.int .i64 0,.int .i64 0,.slice none 0 0,.slice none 0 0] 88 (0,0))):=uEy
      have HB6:Hid (Below W.heap.size W w6):=uGu
      have HS6:Hid (W.heap.size+3<=w6.heap.size):=uOu
      clear hw6)
    |(refine bR rfl 86 _ rfl W.heap.size rfl 88 _ _ _ HX6.out Tryz.underlying86 rfl uNu ?_)
    |(go_at_call 84
      refine(HINS.out _ HB6.out).mono ?_;rintro e w4 ⟨v4,rfl,hh4,ks,hn4,hc4,hf4,hb4⟩;have HT:=iH (aGL w4 hh4 v4 ks hn4 hf4 (by rw[hc4];exact HLL.out));rw[hc4]at HT;obtain⟨a4,cap4,rfl,_⟩:=hn4.1.shape;have HY4:=iH ((hb4.block (W.heap.size+2) (by have:=HS6.out;omega)).trans HY6.out);have HB4:=iH hb4;clear hn4 hc4 hf4 hb4)
    |(go_at_call 83
      refine HT.out.mono ?_;rintro e w7 ⟨c7,rfl,hr7,hb7⟩;obtain⟨y0,y1,q1,n1,c1,q2,n2,c2,rfl⟩:=hr7.four;have HR7:=iH hr7;have HB7:=iH hb7;have HY7:=iH ((hb7.block (W.heap.size+2) (by have:=HS6.out;have:=HB4.out.size;omega)).trans HY4.out);clear hr7 hb7)
    |(refine bV rfl 88 _ _ rfl (W.heap.size+2) _ rfl rfl 88 _ HY7.out eL rfl (aMG rfl rfl rfl rfl) ?_;intro w5 h5 k5))
  refine bF (bU rfl _ _ (W.heap.size+2) 88 _ (0,0) _ rfl h5 Tryz.underlying88 rfl eL) rfl ⟨_,rfl,?_,?_⟩
  ·have hs3:=HS6.out
   exact Ae0
  ·have hs3:=HS6.out
   have hs4:=HB4.out.size;exact((HB6.out.trans (HB4.out.mono uAu)).trans (HB7.out.mono uAu)).trans (k5.below uAu)
theorem aM0 {S:Nat->Prop} {c:Array Value} {l:List Cel} (W:World) (h:dS S W c l) (i:Int) (x:Cel) (hi:¬(0<=i/\i<=l.length)):
    Calls Tryz.prog 47 #[.agg c,.int .i64 i,.agg (aX x)] W fun e W'=>e=.returned (.tuple #[.agg qC,.int .i64 4])/\Below W.heap.size W W':=by
  obtain⟨w2,hw2⟩:∃w2,((W.alloc (.cells c 88)).alloc (.cells (aX x) 35)).alloc (.cells #[.int .i64 0,.int .i64 0,.slice none 0 0,.slice none 0 0] 88)=w2:=⟨_,rfl⟩
  obtain⟨hb2,hx2,hv2,hy2,hs2⟩:=lI hw2;have HV2:=iH hv2;have HX2:=iH hx2;have HY2:=iH hy2;have HB2:=iH hb2;have HS2:=iH hs2;have HS:=iH h.size;have HH:=iH (aBh w2 (h.later hb2) i);rw[show decide (0<=i/\i<l.length)=false by simp;omega]at HH;have HLEN:=iH (fun V (hV:Below W.heap.size W V)=>aDR V (h.later hV));obtain⟨n,hn⟩:∃n,n=l.length:=⟨_,rfl⟩
  rw[<-hn]at HLEN hi;have hne:(i==(n:Int))=false:=bJ.2 uAu;have hne':¬i=(n:Int):=by omega
  clear hb2 hx2 hv2 hy2 hs2 h hi hn;go_enter Tryz.func47,Tryz.ntmps47;go_upto_region 1 with fail
  clear hw2;go_wp2_with (first
    |(refine bR rfl 88 _ rfl W.heap.size rfl 88 _ _ _ HX2.out Tryz.underlying88 rfl uEz ?_)
    |(go_at_call 81
      refine HH.out.mono ?_;rintro e w3 ⟨rfl,hb3⟩;have HX3:=iH ((hb3.block W.heap.size uBw).trans HX2.out);have HV3:=iH ((hb3.block (W.heap.size+1) uBw).trans HV2.out);have HY3:=iH ((hb3.block (W.heap.size+2) uBw).trans HY2.out);have HB3:=iH (tW HB2.out hb3);have HS3:Hid (W.heap.size+3<=w3.heap.size):=uGy
      clear hb3)
    |(refine bR rfl 88 _ rfl W.heap.size rfl 88 _ _ _ HX3.out Tryz.underlying88 rfl uEz ?_)
    |(go_at_call 82
      refine(HLEN.out _ HB3.out).mono ?_;rintro e w6 ⟨rfl,hw6⟩;have HX6:Hid (w6.heap[W.heap.size]? =some (.cells c 88 (0,0))):=uFv
      have HV6:Hid (w6.heap[W.heap.size+1]? =some (.cells (aX x) 35 (0,0))):=uEx
      have HY6:Hid (w6.heap[W.heap.size+2]? =some (.cells #[.int .i64 0,.int .i64 0,.slice none 0 0,.slice none 0 0] 88 (0,0))):=uEy
      have HB6:Hid (Below W.heap.size W w6):=uGu
      have HS6:Hid (W.heap.size+3<=w6.heap.size):=uOu
      clear hw6)
    |(refine bV rfl 88 _ _ rfl (W.heap.size+2) qC rfl rfl 88 _ HY6.out eL rfl (aMG rfl rfl rfl rfl) ?_;intro w5 h5 k5))
  exact bF (bU rfl _ _ (W.heap.size+2) 88 _ (0,0) _ rfl h5 Tryz.underlying88 rfl eL) rfl ⟨rfl,HB6.out.trans (k5.below uAu)⟩
theorem aOj {S:Nat->Prop} {c:Array Value} {l:List Cel} (W:World) (h:dS S W c l) (i:Nat) (x:Cel) (hi:i<=l.length) (hN:l.length<=50000):
  Calls Tryz.prog 47 #[.agg c,.int .i64 (i:Int),.agg (aX x)] W fun e W'=>∃c',e=.returned (.tuple #[.agg c',.int .i64 0])/\dS (fun g=>S g\/W.heap.size<=g) W' c' (rQ l i x)/\Below W.heap.size W W':=by
 rcases cZ i l.length with h1|h1
 ·exact aCA W h i x h1 hN
 ·exact aCB W h i x uAu hN
theorem aEj (a:Tr):iX a=(tal a.xs).length+1:=by rw[vU,oI]
theorem aGu {a:Tr} (h:63<(tal a.xs).length):pN a=(iE,7):=by
 unfold pN;rw[if_pos (by rw[aEj];omega)]
theorem aGt {a:Tr} (h:(tal a.xs).length<=63) (hn:16383<eO a.xs):pN a=(iE,8):=by
 unfold pN;rw[if_neg (by rw[aEj];omega),if_pos (by rw[pO];omega)]
theorem aIk {a:Tr} (h:(tal a.xs).length<=63) (hn:eO a.xs<=16383):pN a=(a,0):=by
 unfold pN;rw[if_neg (by rw[aEj];omega),if_neg (by rw[pO];omega)]
theorem aNm {S:Nat->Prop} (w:World) (x:Cel) (b:Nat) (hp:x.p=some ⟨b,0,none⟩) (rc mc:Array Value) (d0:Value) (N0:Nat) (fr:Nat×Nat) (hbk:w.heap[b]? =some (.cells (iW rc mc d0 N0) 103 fr)) (lr0:List Cel) (hr0:dS S w rc lr0)
  (lm0:List Ent) (sd:Nat) (nn:Int) (hm0:eQ S w sd nn lm0 mc) (hsd:sd<18446744073709551616) (t0:List Int) (hd0:bZ S w 1 d0 (iv t0) t0.length) (fnum:Nat) (lb:Array Value) (hent:∀args w,(callFunc fnum args).run Tryz.prog w=.ok (.enter fnum args) w)
  (a':Tr) (h4:4<=a'.k) (hk:x.k=a'.k) (hn:x.n=0/\a'.n=0) (ht:x.t=⟨#[]⟩/\a'.t=⟨#[]⟩) (l':List Cel) (hl':gC S w a'.xs l')
  (hchg:Chgs S w rc mc d0 N0 (wT a'.k l') sd nn (pC a'.k a'.ks a'.xs l') fnum lb) (d:Value) (hd:bZ S w 1 d (iv (tal a'.xs)) (tal a'.xs).length) (hl:(tal a'.xs).length<=100) (hnl:eO a'.xs<=100000):
  Calls Tryz.prog 48 #[.agg (aX x),.agg #[d,.int .i64 (eO a'.xs:Int)],.func (.func fnum) #[] lb] w fun r w'=>∃y,r=.returned (.tuple #[.agg (aX y),.int .i64 (pN a').2])/\VAt (fun g=>S g\/w.heap.size<=g) w' (pN a').1 y/\Below w.heap.size w w':=by
 obtain⟨da,dc,rfl,_⟩:=hd.shape;have h1d:d0.oneCell'=true:=by obtain⟨_,_,rfl,_⟩:=hd0.shape;rfl
 refine(aGw w x b hp rc mc d0 N0 fr hbk hr0.size hm0.size hr0.one hm0.one h1d _ sd nn _ fnum lb hent hchg da dc (tal a'.xs) (eO a'.xs) hl hnl).mono fun r w' h=> ?_
 obtain⟨hb,⟨h1,rfl⟩|⟨h1,h2,rfl⟩|⟨h1,h2,X,rc',mc',rfl,h3,h5,h6,h7⟩⟩:=h
 ·rw[aGu h1];exact⟨gT,rfl,mI _ _,hb⟩
 ·rw[aGt h1 h2];exact⟨gT,rfl,mI _ _,hb⟩
 ·rw[aIk h1 h2]
  refine⟨_,rfl,?_,hb⟩;rw[hk,hn.1,ht.1,<-hn.2,<-ht.2];exact vG h4 (.inr h3) ((hl'.later hb).weak fun _ h=>.inl h) ⟨rc',mc',_,_,sd,nn,h5,hsd,h6,h7,(hd.later hb).weak fun _ h=>.inl h⟩
theorem aOl {α:Type} (n:Nat) (l:List α) (y:α):(l++[y]).Perm (iQ n l y):=(List.perm_append_comm.trans (by rw[aCn])).trans (vH n l y).symm
theorem aIn {S:Nat->Prop} {W:World} {xs:List Tr} {l:List Cel} (h:gC S W xs l) (n:Nat):gC S W (xs.take n) (l.take n):=by
 have hl:=fG h;refine yE (by rw[aV,aV,hl]) fun k hk hk2=> ?_
 rw[rK,rK];exact tF h _ _
theorem aIo {S:Nat->Prop} {W:World} {xs:List Tr} {l:List Cel} (h:gC S W xs l) (n:Nat):gC S W (xs.drop n) (l.drop n):=by
 have hl:=fG h;refine yE (by rw[bS,bS,hl]) fun k hk hk2=> ?_
 rw[nN,nN];exact tF h _ _
theorem aOr {S:Nat->Prop} {W:World} {xs:List Tr} {l:List Cel} (h:gC S W xs l) (n:Nat) {y:Tr} {c:Cel} (hy:VAt S W y c):gC S W (iQ n xs y) (iQ n l c):=by
 unfold iQ;have h1:gC S W (y::xs.drop n) (c::l.drop n):=by rw[gC];exact⟨c,_,rfl,hy,aIo h n⟩
 exact yF (aIn h n) h1
end Go.Proofs.YtengibnpebfblaaGreatDoor
