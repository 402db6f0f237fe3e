import Derived.Test.YthmfgidbcghnfaaGreatDoorQ0
import Derived.Test.YthmfgidbcghnfaaGreatDoorQ49
import Derived.Test.YthmfgidbcghnfaaGreatDoorQ50
set_option maxRecDepth 1000000
set_option maxHeartbeats 8000000
set_option linter.unusedSimpArgs false
namespace Go.Proofs.YthmfgidbcghnfaaGreatDoor
open Go.RowKit
theorem aPz (D:Nat) (c:UInt8) (q:List UInt8) (i:Nat) (hi:i<=D):(List.replicate D c++q).drop i=List.replicate (D-i) c++q:=by
 rw[List.drop_append_of_le_length (by rw[nZ];exact hi),List.drop_replicate]
theorem aT4 (D:Nat) (c:UInt8) (q:List UInt8) (i:Nat) (hi:i<D):(List.replicate D c++q).drop i=c::(List.replicate (D-i-1) c++q):=by
 rw[aPz D c q i hO];obtain⟨m,hm⟩:∃m,D-i=m+1:=⟨D-i-1,by omega⟩
 rw[hm,gA];rfl
theorem aFK (D:Nat) (q:List UInt8) (hq:∀r,q≠61::r) (i:Nat) (hi:i<D):nxR (List.replicate D 91++q) i=.ok (gS i ⟨1,0,[91]⟩ 1):=by
 refine vO _ _ (.inl rfl) _ ?_ (aT4 D 91 q i hi);intro r e;cases h:D-i-1 with
 |zero=>rw[h]at e;exact hq r e
 |succ m=>rw[h,gA,aP,dA]at e;exact absurd e.1 uAv
theorem aPE (D:Nat) (hD:65<=D) (q:List UInt8) (hq:∀r,q≠61::r):∀j d f,d+1+j=65->2*j+1<=f->rdV (List.replicate D 91++q) f (d+1) d d=.error (64,7):=by
 intro j;induction j with
 |zero=>
  intro d f hd hf;obtain⟨f,rfl⟩:∃g,f=g+1:=⟨f-1,by omega⟩
  obtain rfl:d=64:=by omega
  rw[rdV,aFK D q hq 64 hO];simp only[show hdS (gS 64 ⟨1,0,[91]⟩ 1)=some (4,0,[],true)from rfl];rw[if_pos hO];rfl
 |succ j ih=>
  intro d f hd hf;obtain⟨f,rfl⟩:∃g,f=g+2:=⟨f-2,by omega⟩
  rw[rdV,aFK D q hq d hO];simp only[show hdS (gS d ⟨1,0,[91]⟩ 1)=some (4,0,[],true)from rfl,show(gS d ⟨1,0,[91]⟩ 1).e=d+1 from rfl];rw[if_neg hO,if_neg hO,if_neg uAy,aFK D q hq (d+1) hO];simp only[yK];rw[if_neg uAv,rdP];unfold rdK;rw[if_neg uAv];simp only;rw[ih (d+1) f hO hO]
theorem aMP (D:Nat) (hD:65<=D) (q:List UInt8) (hq:∀r,q≠61::r):mG (List.replicate D 91++q) 0=.error (64,7):=by
 unfold mG;rw[aPE D hD q hq 64 0 _ hO (by rw[aB,nZ];omega)]
def oF:Nat->List UInt8
 |0=>[93]
 |m+1=>44::55::oF m
theorem aNV (m:Nat):aE3 (oF m):=by
 cases m<;>exact sH uAv uAv
theorem aKa (m:Nat):(oF m).length=2*m+1:=by
 induction m with
 |zero=>rfl
 |succ m ih=>rw[oF,aD,aD,ih];omega
theorem aAe (l:List UInt8) (a m:Nat) (hl:l.drop a=55::oF m):nxR l a=.ok (gS a ⟨3,7,[]⟩ 1):=by
 have hp:jN ⟨3,7,[]⟩=[55]:=by decide+kernel
 have h:=aCp l a ⟨3,7,[]⟩ (oF m) (.inr (.inl ⟨rfl,by show InR 7;unfold InR;omega,rfl⟩)) (aNV m) (by rw[hp,hl];rfl);rw[h,hp];rfl
theorem aOI (l:List UInt8):∀j i m f ks xs,i+j=16383->j<=m->l.drop (1+2*i)=55::oF m->2*j+3<=f->rdP l f 4 1 (1+2*i) (i+1) [] ks xs=.error (32767,8):=by
 intro j;induction j with
 |zero=>
  intro i m f ks xs hi hm hl hf;obtain⟨f,rfl⟩:∃g,f=g+2:=⟨f-2,by omega⟩
  obtain rfl:i=16383:=by omega
  rw[rdP];unfold rdK;rw[if_neg uAv];simp only;rw[rdV,aAe l _ m hl];simp only[show∀p,hdS (gS p ⟨3,7,[]⟩ 1)=some (2,7,[],false)from fun _=>rfl];rw[if_neg hO,if_pos hO];rfl
 |succ j ih=>
  intro i m f ks xs hi hm hl hf;obtain⟨f,rfl⟩:∃g,f=g+2:=⟨f-2,by omega⟩
  obtain⟨m,rfl⟩:∃k,m=k+1:=⟨m-1,by omega⟩
  rw[rdP];unfold rdK;rw[if_neg uAv];simp only;have cw:l.drop (1+2*i+1)=44::55::oF m:=by rw[<-gH,hl];rfl
  have Mn:l.drop (1+2*(i+1))=55::oF m:=by
   rw[show 1+2*(i+1)=1+2*i+1+1 by omega,<-gH,cw];rfl
  rw[rdV,aAe l _ (m+1) hl];simp only[show∀p,hdS (gS p ⟨3,7,[]⟩ 1)=some (2,7,[],false)from fun _=>rfl,show∀p,(gS p ⟨3,7,[]⟩ 1).e=p+1 from fun _=>rfl];rw[if_neg hO,if_neg hO,if_pos trivial];simp only;rw[if_neg hO,vO l _ (.inr (.inr (.inr (.inr (.inr (.inr (.inl rfl))))))) _ (fun q e=>by rw[dA]at e;exact absurd e.1 uAv) cw];simp only[yK];rw[if_pos uAv,if_neg hO];have:=ih (i+1) m (f+1) ks (xs++[.nd 2 7 ⟨#[]⟩ [] []]) hO hO Mn hO;rw[show 1+2*(i+1)=1+2*i+1+1 by omega]at this;exact this
theorem aMg (m:Nat) (hm:16383<=m):mG (91::55::oF m) 0=.error (32767,8):=by
 unfold mG;have an:(91::55::oF m:List UInt8).length=2*m+3:=by rw[aD,aD,aKa]
 rw[an,show 2*(2*m+3)+2=(4*m+7)+1 by omega,rdV,vO _ 0 (.inl rfl) _ (fun q e=>by rw[dA]at e;exact absurd e.1 uAv) rfl];simp only[show hdS (gS 0 ⟨1,0,[91]⟩ 1)=some (4,0,[],true)from rfl,show(gS 0 ⟨1,0,[91]⟩ 1).e=1 from rfl];rw[if_neg hO,if_neg hO,if_neg uAy,aAe _ 1 m rfl];simp only;rw[if_neg uAv,aOI _ 16383 0 m (4*m+7) [] [] hO hm rfl hO]
def vZ:Nat->Tr
 |0=>.nd 4 0 ⟨#[]⟩ [] []
 |n+1=>.nd 4 0 ⟨#[]⟩ [] [vZ n]
def uQ (D:Nat):List UInt8:=List.replicate D 91++List.replicate D 93
theorem zW:∀n,eY (vZ n)=uQ (n+1)
 |0=>rfl
 |n+1=>by
  rw[vZ,pG (.inl rfl),kU,nK,zW n];unfold uQ;rw[gA (n:=n+1),aFb (n:=n+1) (a:=(93:UInt8))];simp[sK,kR]
theorem aEV:∀n,kL (vZ n)
 |0=>by rw[vZ,kL];exact⟨trivial,.inr ⟨rfl,rfl,.inl ⟨rfl,rfl⟩⟩⟩
 |n+1=>by rw[vZ,kL];exact⟨⟨aEV n,trivial⟩,.inr ⟨rfl,rfl,.inl ⟨rfl,rfl⟩⟩⟩
theorem aD3:∀n,gJ (vZ n)=n+1/\eW (vZ n)=n+1
 |0=>⟨rfl,rfl⟩
 |n+1=>by
  obtain⟨h1,h2⟩:=aD3 n;rw[vZ];exact⟨by rw[gJ,fP,fP,h1];try omega,by rw[eW,cU,cU,h2];try omega⟩
theorem aD2 (D:Nat):(uQ D).length=2*D:=by unfold uQ;simp;omega
theorem aS2 (n:Nat) (h:n<64):jO (uQ (n+1))=.ok (vZ n):=by
 have h1:=aD3 n;rw[<-zW];exact zC (aEV n) hO hO (by rw[zW,aD2];omega)
theorem aS3 (D:Nat) (h:65<=D) (h2:D<=200):jO (uQ D)=.error (64,7):=by
 unfold jO;rw[if_neg (by rw[aD2];omega)];have:=aMP D h (List.replicate D 93) (fun r e=>by
  obtain⟨m,rfl⟩:∃m,D=m+1:=⟨D-1,by omega⟩
  rw[gA]at e;simp at e)
 rw[show uQ D=List.replicate D 91++List.replicate D 93 from rfl,this]
def aAf:Tr:=.nd 2 7 ⟨#[]⟩ [] []
def zH (m:Nat):Tr:=.nd 4 0 ⟨#[]⟩ [] (List.replicate m aAf)
def oS (m:Nat):List UInt8:=91::kU 4 [] (List.replicate m aAf)
theorem aFy:eY aAf=[55]:=by kernel_rfl
theorem aPi:kL aAf:=by rw[aAf,kL];exact⟨trivial,.inl ⟨by decide,by decide,by rfl,by decide,rfl,rfl⟩⟩
theorem aEK:∀m,aDo (List.replicate m aAf)
 |0=>trivial
 |m+1=>by rw[gA,aDo];exact⟨aPi,aEK m⟩
theorem aMi (m:Nat):kL (zH m):=by rw[zH,kL];exact⟨aEK m,.inr ⟨rfl,rfl,.inl ⟨rfl,rfl⟩⟩⟩
theorem aHx (m:Nat):cU (List.replicate m aAf)=m:=by
 induction m with
 |zero=>rfl
 |succ m ih=>rw[gA,cU,ih,show eW aAf=1 from rfl];omega
theorem aPD (m:Nat):fP (List.replicate m aAf)<=1:=by
 induction m with
 |zero=>exact aS _
 |succ m ih=>rw[gA,fP,show gJ aAf=1 from rfl];omega
theorem aMh (m:Nat):oS (m+1)=oS m++((if 0<m then[44]else[])++[55]):=by
 have h:=aES (k:=4) (ks:=[]) (xs:=List.replicate (m+1) aAf) (j:=m) uAy;unfold oS;simp only[List.take_replicate,Nat.min_self,List.getElem_replicate,aI6,aFy,fT (oW m)]at h;rw[h];simp
theorem aOH (m:Nat):eY (zH m)=oS m++[93]:=by
 rw[zH,pG (.inl rfl)];rfl
theorem aPv (m:Nat):nK 4 [] (List.replicate m aAf)++[93]=oF m:=by
 induction m with
 |zero=>rw[List.replicate_zero,nK];rfl
 |succ m ih=>rw[gA,nK,aFy,oF,<-ih];rfl
theorem aHF (m:Nat):oS (m+1)++[93]=91::55::oF m:=by
 unfold oS;rw[gA,kU,aFy,<-aPv];rfl
theorem vQ (m:Nat):(oS m++[93]).length<=2*m+2:=by
 cases m with
 |zero=>exact aA _
 |succ m=>rw[aHF,aD,aD,aKa];omega
theorem aRr (m:Nat) (h:m<16384):jO (oS m++[93])=.ok (zH m):=by
 have h1:=aPD m;have h2:=aHx m;have h3:=vQ m;rw[<-aOH]at h3 ⊢;exact zC (aMi m) (by rw[zH,gJ];omega) (by rw[zH,eW];omega) hO
theorem aRs (m:Nat) (h:16384<=m) (h2:m<=17000):jO (oS m++[93])=.error (32767,8):=by
 obtain⟨m,rfl⟩:∃k,m=k+1:=⟨m-1,by omega⟩
 have h3:=vQ (m+1);unfold jO;rw[if_neg hO,aHF,aMg m hO]
theorem codecDeep_walk (s:Nat) (bb d:Int) (hs:s<18446744073709551616) (_:(Lit.int .i64 d).wf=true) (w:World) (hT:T14 w):
  Calls Tryz.prog 11 #[.agg #[.int .u64 (s:Int),.int .i64 bb],.int .i64 d] w fun e w'=>e=.returned (.bool true)/\Below w.heap.size w w':=by
 have mb:=iH (fun W (hb:Below w.heap.size w W)=>xF W (hT.below hb));obtain⟨w1,ag⟩:∃w1,w.alloc (.cells #[.int .u64 (s:Int),.int .i64 bb] 24)=w1:=⟨_,rfl⟩
 obtain⟨af,dr,al⟩:=fH ag;have HW:Hid (Below w.heap.size w w1):=af;have bd:=iH dr;clear af dr al;by_cases h1:d<1
 ·clear hT
  go_enter Tryz.func11,Tryz.ntmps11;exact Aa6
 by_cases h2:200<d
 ·clear hT
  go_enter Tryz.func11,Tryz.ntmps11;exact Aa6
 obtain⟨D,rfl⟩:∃D:Nat,d=(D:Int):=⟨d.toNat,by omega⟩
 have HD:Hid (1<=D/\D<=200):=by show _/\_;omega
 have HT:=iH (fun W (hb:Below w.heap.size w W)=>hT.below hb);have Sz:=iH hs;clear hT hs;go_enter Tryz.func11,Tryz.ntmps11;go_upto_region 1 with fail
 clear ag;go_upto_region 3 with(go_at_call 13;(with_reducible refine(mb.out _ HW.out).mono ?_);rintro r wL ⟨rfl,hb⟩;replace bd:=iH (kW hb bd.out);replace HW:=iH (tW HW.out hb);have s9:=iH bd.out;clear hb)
 go_upto_region 4 with fail
 obtain⟨B,hB⟩:∃B,B=wL.heap.size:=⟨_,rfl⟩
 obtain⟨wS,Tu⟩:∃wS,wS=wL.alloc (.cells #[] 5):=⟨_,rfl⟩
 have mw:=Buf.lit (w:=wL) (aA _) #[] [] rfl uAv;have hb:=Below.newly' wL (.cells #[] 5);rw[<-Tu]at mw hb ⊢;replace bd:=iH (kW hb bd.out);replace HW:=iH (tW HW.out hb);rw[<-hB]at mw ⊢;have zy:Hid (w.heap.size<B/\B<=wS.heap.size):=⟨by rw[hB];exact(gZ s9.out),by rw[hB];exact hb.size⟩
 have sq:=iH mw;clear hB Tu mw hb s9;go_wp2_with fail
 go_loopw [5,21] (fun b i W=>∃(j:Nat) (v:Value),j<=D/\i=.int .i64 (j:Int)/\v=b/\Buf B v (List.replicate j 91) W/\Below B wS W) (fun _ i _=>D-(intOf i).toNat)
 case atStart=>exact⟨0,_,aS _,rfl,rfl,sq.out,bB _ _⟩
 case round=>
  obtain⟨j,b,hj,rfl,rfl,ot,bf⟩:=hrel;have I9:=iH ot;have jt:=iH bf;clear ot bf;by_cases hlt:j<D
  case pos=>
   have l0:(j:Int)<(D:Int):=by omega
   have ew:=iH hlt;clear hlt;go_wp2_with (at_builtin;(refine cT rfl _ _ rfl rfl I9.out [91] _ rfl 1 1 rfl rfl uMz ?_);intro v2 w2 ah cw;have aq:=iH ah;have fu:=iH cw;clear ah cw)
   go_roundw
   case rel=>exact⟨j+1,_,by have:=ew.out;omega,by go_num,rfl,by have h:=aq.out;simpa[aFb,bG]using h,jt.out.trans fu.out⟩
   case measure=>have:=ew.out;simp[intOf];omega
  obtain rfl:D=j:=by omega
  have l0:¬(D:Int)<(D:Int):=by omega
  clear hlt hj;clear sq;go_wp2_with fail
  go_loopw [5,28] (fun b i W=>∃(j:Nat) (v:Value),j<=D/\i=.int .i64 (j:Int)/\v=b/\Buf B v (List.replicate D 91++List.replicate j 93) W/\Below B wr W) (fun _ i _=>D-(intOf i).toNat)
  case atStart=>exact⟨0,_,aS _,rfl,rfl,(by simpa using I9.out),bB _ _⟩
  case round=>
   obtain⟨j,b,hj,rfl,rfl,K4,bf⟩:=hrel;have fh:=iH K4;have AI:=iH bf;clear K4 bf;by_cases hlt:j<D
   case pos=>
    have l0:(j:Int)<(D:Int):=by omega
    have ew:=iH hlt;clear hlt;go_wp2_with (at_builtin;(refine cT rfl _ _ rfl rfl fh.out [93] _ rfl 1 1 rfl rfl uMz ?_);intro v2 w2 ah cw;have aq:=iH ah;have fu:=iH cw;clear ah cw)
    go_roundw
    case rel=>exact⟨j+1,_,by have:=ew.out;omega,by go_num,rfl,by have h:=aq.out;simpa[aFb,bG]using h,AI.out.trans fu.out⟩
    case measure=>have:=ew.out;simp[intOf];omega
   obtain rfl:D=j:=by omega
   have l0:¬(D:Int)<(D:Int):=by omega
   clear hlt hj;have AJ:Hid (Buf B b (uQ D) wr):=fh.out;have Pe:Hid (Below B wS wr):=jt.out.trans AI.out;have hb:Below B wS wr:=Pe.out;have yj:Hid (wr.heap[w.heap.size]? =some (.cells #[.int .u64 (s:Int),.int .i64 bb] 24 (0,0))):=(hb.block _ zy.out.1).trans bd.out;have fy:Hid (Below w.heap.size w wr):=HW.out.trans (hb.mono (eH zy.out.1));clear fh jt AI I9 hb Pe bd;obtain⟨S0,zl⟩:∃S0:ByteArray,S0=⟨(uQ D).toArray⟩:=⟨_,rfl⟩
   have p8:S0.data.toList=uQ D:=by rw[zl]
   have Bg:S0.size<=400:=by have h:=cY S0;rw[p8,aD2]at h;have:=HD.out;omega
   have Ja:=fun W (hq:Buf B b (uQ D) W)=>hq.str
   rw[<-zl]at Ja;have Jb:=iH Ja;have z8:(convert 72 9 b).run Tryz.prog wr=.ok (.string S0) wr:=Ja wr AJ.out;clear Ja;have el:=fun W (hW:Below w.heap.size w W)=>tB s bb S0 W (HT.out W hW).1 (HT.out W hW).2.2 hO Sz.out
   rw[p8]at el;obtain⟨X0,Bq⟩:∃X0,X0=b:=⟨_,rfl⟩
   by_cases FU:64<D
   ·have AK:(64:Int)<(D:Int):=by omega
    rw[aS3 D hO HD.out.2]at el;have oq:Hid (∀W,Below w.heap.size w W->Calls Tryz.prog 20 #[.agg #[.int .u64 (s:Int),.int .i64 bb],.string S0] W fun e w'=>∃E,e=.returned (.tuple #[.agg #[.int .i64 0,.int .i64 0,.string ⟨#[]⟩,.pointer none],E])/\fR W.heap.size w' E 7 64/\Below W.heap.size W w'):=el;have Gu:Hid (∀W E,Below w.heap.size w W->rH W E 7 64->Calls Tryz.prog 24 #[E,.int .i64 64,.int .i64 7] W fun e w'=>e=.returned (.bool true)/\Below W.heap.size W w'):=fun W E hb hE=>aOP E 7 64 W hE (HT.out W hb).1.et
    have o7:Hid (∀W,Calls Tryz.prog 32 #[.agg #[.int .i64 0,.int .i64 0,.string ⟨#[]⟩,.pointer none]] W fun e w'=>e=.returned (.int .i64 0)/\Below W.heap.size W w'):=fun W=>iQ W ⟨0,0,⟨#[]⟩,none⟩
    clear el zl p8 Bg Bq FU;go_wp2_with (first
     |(refine aW uAz 24 _ rfl w.heap.size rfl 24 _ _ _ yj.out Tryz.underlying24 rfl gQ ?_)
     |(go_at_call 20;(with_reducible refine(oq.out _ fy.out).mono ?_);rintro r V ⟨E,rfl,he,hb⟩;have HE:=iH he.v;replace fy:=iH (tW fy.out hb);clear hb he)
     |(refine aV rfl 37 _ _ rfl V.heap.size #[.int .i64 0,.int .i64 0,.string ⟨#[]⟩,.pointer none] rfl rfl 37 _ (aC _ _) aF rfl uAx ?_;intro w4 h4 k4;have hb:=(Below.newly' V (.cells #[.int .i64 0,.int .i64 0,.string ⟨#[]⟩,.pointer none] 37)).trans (k4.below (aA _));have bw:=iH h4;have If:=iH (HE.out.later hb);replace fy:=iH (tW fy.out hb);clear h4 k4 hb)
     |(go_at_call 24;(with_reducible refine(Gu.out _ _ fy.out If.out).mono ?_);rintro r w5 ⟨rfl,hb⟩;have fg:=iH (kW hb bw.out);replace fy:=iH (tW fy.out hb);clear hb)
     |(refine aW uAz 37 _ rfl V.heap.size rfl 37 _ _ _ fg.out Tryz.underlying37 rfl aF ?_)
     |(go_at_call 32;(with_reducible refine(o7.out _).mono ?_);rintro r w7 ⟨rfl,hb⟩;replace fy:=iH (tW fy.out hb);clear hb))
    go_ret;exact⟨rfl,fy.out⟩
   have AK:¬(64:Int)<(D:Int):=by omega
   obtain⟨n,hn⟩:∃n,D=n+1:=⟨D-1,by have:=HD.out;omega⟩
   have qy:=aS2 n hO;rw[<-hn]at qy;rw[qy]at el;obtain⟨t,ht⟩:∃t,t=vZ n:=⟨_,rfl⟩
   have zg:fQ t:=by rw[ht];exact sJ qy
   have FV:gJ t=D:=by rw[ht,(aD3 n).1,hn]
   have FW:eY t=uQ D:=by rw[ht,zW,hn]
   rw[<-ht]at el;have oq:Hid (∀W,Below w.heap.size w W->Calls Tryz.prog 20 #[.agg #[.int .u64 (s:Int),.int .i64 bb],.string S0] W fun e w'=>∃y,e=.returned (.tuple #[.agg (aL y),.nilIface])/\VAt (fun g=>W.heap.size<=g) w' t y/\Below W.heap.size W w'):=el;have Ag:Hid (∀W y,Below w.heap.size w W->VAt (fun _=>True) W t y->Calls Tryz.prog 17 #[.agg (aL y)] W fun e w'=>e=.returned (.string S0)/\Below W.heap.size W w'):=fun W y hb hy=>by
    have h:=xN t y W (HT.out W hb).1.1 (HT.out W hb).2.1 (HT.out W hb).2.2 hy zg;rw[FW,<-zl]at h;exact h
   have Mo:Hid (∀W y,VAt (fun _=>True) W t y->Calls Tryz.prog 36 #[.agg (aL y)] W fun e w'=>e=.returned (.int .i64 (D:Int))/\Below W.heap.size W w'):=fun W y hy=>by
    have h:=aGH W t y zg hy;rw[FV]at h;exact h
   clear el qy FW FV zg ht hn zl p8 Bg Bq FU;go_upto_region 15 with(first
    |(refine aW uAz 24 _ rfl w.heap.size rfl 24 _ _ _ yj.out Tryz.underlying24 rfl gQ ?_)
    |(go_at_call 20;(with_reducible refine(oq.out _ fy.out).mono ?_);rintro r V ⟨y,rfl,hy,hb⟩;have HY:Hid (VAt (fun _=>True) V t y):=hy.weak fun _ _=>trivial;have ve:=iH (AJ.out.later hb);replace fy:=iH (tW fy.out hb);clear hb hy)
    |(refine aV rfl 37 _ _ rfl V.heap.size (aL y) rfl rfl 37 _ (aC _ _) aF rfl (cE y) ?_;intro w4 h4 k4;have hb:=(Below.newly' V (.cells #[.int .i64 0,.int .i64 0,.string ⟨#[]⟩,.pointer none] 37)).trans (k4.below (aA _));have bw:=iH h4;have gg:=iH (HY.out.later hb);have Mq:=iH (ve.out.later hb);replace fy:=iH (tW fy.out hb);clear h4 k4 hb))
   clear z8;obtain⟨X,hX⟩:∃X,X=V.heap.size:=⟨_,rfl⟩
   rw[<-hX]at bw ⊢;have ar:Hid (∀V,Below w4.heap.size w4 V->V.heap[X]? =some (.cells (aL y) 37 (0,0))/\(convert 72 9 b).run Tryz.prog V=.ok (.string S0) V):=fun V hV=>⟨(kW hV bw.out),Jb.out V (Mq.out.later hV)⟩
   have ox:Hid (∀V,Below w4.heap.size w4 V->Calls Tryz.prog 36 #[.agg (aL y)] V fun e w'=>e=.returned (.int .i64 (D:Int))/\Below V.heap.size V w'):=fun V hV=>Mo.out V y (gg.out.later hV)
   have du:Hid (∀V,Below w4.heap.size w4 V->Calls Tryz.prog 17 #[.agg (aL y)] V fun e w'=>e=.returned (.string S0)/\Below V.heap.size V w'):=fun V hV=>Ag.out V y (tW fy.out hV) (gg.out.later hV)
   have nk:Hid (Below w4.heap.size w4 w4.drew):=aY w4;clear hX bw gg HY Mq ve AJ oq Ag Mo;refine bO (S:=(fun V=>V.heap[X]? =some (.cells (aL y) 37 (0,0))/\(convert 72 9 b).run Tryz.prog V=.ok (.string S0) V)) [] uAu uGv (fun ab=> ?_);obtain⟨wd,j9⟩:∃wd,wd=w4.drew:=⟨_,rfl⟩
   rw[<-j9]at nk ab ⊢;clear j9;refine tkL 0 50 (h:=?_);refine tkL 1 51 (h:=?_);(try simp only[pq]);refine tkL 2 52 (h:=?_);refine tyL 3 53 (hy:=aJ uAz 37 _ rfl X rfl (aL y) 37 (0,0) _ (fun w hw=>hw.1) Tryz.underlying37 rfl uCu) (h:=?_);(try simp only[pq]);refine tkL 5 55 (h:=?_);(try simp only[pq]);refine tkO 4 (some 54) (h:=fun K hK=> ?_);go_simp;go_at_call 36;(with_reducible refine(ox.out _ nk.out).mono ?_);rintro r wC ⟨rfl,hb⟩;replace nk:=iH (tW nk.out hb);clear hb;dsimp only;refine hK.out _ _ uGv (fun ab=> ?_);clear hK K;(try simp only[pq]);refine tkL 6 56 (h:=?_);refine tkL 7 57 (h:=?_);(try simp only[pq]);refine tkL 8 58 (h:=?_);refine tyL 9 59 (hy:=aJ uAz 37 _ rfl X rfl (aL y) 37 (0,0) _ (fun w hw=>hw.1) Tryz.underlying37 rfl uCu) (h:=?_);(try simp only[pq]);refine tkL 11 61 (h:=?_);(try simp only[pq]);refine kG (i:=12) (oi:=⟨some 62,_,_,_,_,_⟩) (v:=.string S0) rfl uAu uAu uAu uAu (fun _ _ _ h=>h) (Or.inl ⟨by rfl,?hg1_12⟩) uCw ?rg1_12
   case hg1_12=>(intro w jy;(try dsimp only at jy);have h:=jy.2;go_simp)
   (try simp only[pq]);refine tkO 10 (some 60) (h:=fun K hK=> ?_);go_simp;go_at_call 17;(with_reducible refine(du.out _ nk.out).mono ?_);rintro r wC ⟨rfl,hb⟩;replace nk:=iH (tW nk.out hb);clear hb;dsimp only;refine hK.out _ _ uGv (fun ab=> ?_);clear hK K;(try simp only[pq]);refine tkL 13 63 (h:=?_);refine tkL 14 64 (h:=?_);(try simp only[pq]);refine tkL 15 4 (h:=?_);(try simp only[pq]);refine bJ uAu ?_ _;go_wp2_with fail
   go_ret;exact⟨nN uAy,tW fy.out nk.out⟩
end Go.Proofs.YthmfgidbcghnfaaGreatDoor
