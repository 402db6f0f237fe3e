import Derived.Test.YthmfgidbcghnfaaGreatDoorQ0
import Derived.Test.YthmfgidbcghnfaaGreatDoorQ7
set_option maxRecDepth 1000000
set_option maxHeartbeats 8000000
set_option linter.unusedSimpArgs false
namespace Go.Proofs.YthmfgidbcghnfaaGreatDoor
open Go.RowKit
theorem sU:(Tryz.prog.info? 211).map (fun i=>(i.zero,i.size,i.bytes))=some (some (.pointer none),1,8):=by kernel_rfl
theorem aKl:(Tryz.prog.info? 258).map (fun i=>(i.zero,i.size,i.bytes))=some (some (.agg #[.pointer none,.pointer none]),2,16):=by kernel_rfl
theorem dN:(Tryz.prog.info? 258).map (·.size)=some 2:=by kernel_rfl
theorem iT:(Tryz.prog.info? 134).map (·.size)=some 3:=by kernel_rfl
theorem iY:(Tryz.prog.info? 131).map (·.size)=some 2:=by kernel_rfl
theorem gP:(Tryz.prog.info? 136).map (·.size)=some 6:=by kernel_rfl
theorem gr_ep (n:Nat) (hn:n<=200000) (w:World):Calls Tryz.prog 221 #[.slice none 0 0,.int .i64 (n:Int)] w fun e w'=>∃v,e=.returned v/\w'.ownsRow w.heap.size 211 1 v 0 []/\Below w.heap.size w w':=by
 by_cases h0:n=0
 ·subst h0
  go_enter Tryz.func221,Tryz.ntmps221;exact Ah8
 ·obtain⟨i,hi,hz,h1,h2⟩:=dO sU
  have cr:∀ty,(Builtin.append_ #[132,3] ty #[.slice none 0 0,.int .i64 (n:Int)]).run Tryz.prog w=.ok (.slice (some ⟨w.heap.size,0,none⟩) n (grownCap w n 0 211)) (w.drew.alloc (.cells (Builtin.zeroCells (.pointer none:Value).cells n++Builtin.zeroCells (.pointer none:Value).cells (grownCap w n 0 211-n)) 211)):=fun ty=>by
   have h:=yS (P:=Tryz.prog) w 132 3 ty 211 i (.pointer none) .i64 .i64 Tryz.underlying132 Tryz.underlying3 hi hz none 0 0 [] (aGx w.drew i.size 0 0 0) n hO hO hO hO uRx
    uJy
   simpa using h
  have Ed:=grownCap_ge w n 0 211;have Bk:=aIJ w n 0 211 uCx;obtain⟨G,hG⟩:∃G,G=grownCap w n 0 211:=⟨_,rfl⟩
  rw[<-hG]at cr Ed Bk;have AP:(G:Int)<=9223372036854775807:=by unfold maxLen at Bk;omega
  have Dh:(n:Int)<=200000:=by omega
  have Lc:(0:Int)<n:=by omega
  have Ee:=iH cr;have Ef:=iH Ed;have HG2:=iH Bk;have HN:=iH hn;clear cr Ed Bk h0 hG hn;go_enter Tryz.func221,Tryz.ntmps221;go_wp2_with (refine qC rfl _ _ _ _ rfl rfl rfl Ee.out ?_)
  go_ret;refine⟨_,rfl,World.ownsRow_made w.drew _ G (aA _) HG2.out ?_,Below.more (aY w) _⟩;have:=Ef.out;rw[Array.size_append,aF7,aF7];show n*1+(G-n)*1=G*1;omega
theorem cc_ep {α:Type} {enc:α->List Value} (bq:∀x,∀u∈enc x,u.oneCell'=true) (w:World) {S:Nat->Prop} (B:Nat) (ls:List (Value×List α))
  (bt:∀k (hk:k<ls.length),w.cell? ⟨B,k,none⟩=some ls[k].1) (ev:∀p∈ls,bY S w 1 p.1 (en enc p.2) p.2.length) (hN:(fB ls ls.length).length<=100000) (hl:ls.length<=1000):
  Calls Tryz.prog 181 #[.slice (some ⟨B,0,none⟩) ls.length ls.length] w fun e w'=>∃v,e=.returned v/\w'.ownsRow w.heap.size 211 1 v (fB ls ls.length).length (en enc (fB ls ls.length))/\Below w.heap.size w w':=by
 obtain⟨i,hi,hz,h1,h2⟩:=dO sU;have HS:=iH ev;have HC:=iH bt;have HN:=iH hN;have HI:=iH (And.intro hi (And.intro hz (And.intro h1 h2)));clear ev bt hi hz h1 h2 hN;go_enter Tryz.func181,Tryz.ntmps181;go_wp2_with fail
 go_loopw [3,11] (fun n i wr=>∃k:Nat,k<=ls.length/\i=.int .i64 k/\n=.int .i64 ((fB ls k).length:Nat)/\w=wr) (fun _ i _=>ls.length-(intOf i).toNat)
 case atStart=>exact⟨0,aS _,rfl,rfl,rfl⟩
 case round=>
  obtain⟨k,hk,rfl,rfl,rfl⟩:=hrel;by_cases hlt:k<ls.length
  ·exact Aa2
  ·obtain rfl:k=ls.length:=by omega
   obtain⟨N,hN⟩:∃N,N=(fB ls ls.length).length:=⟨_,rfl⟩
   have zi:=iH (gr_ep N uJz w);have mu:=iH hN;rw[<-hN];clear hN;go_wp2_with (go_at_call 221;refine zi.out.mono ?_;rintro e w1 ⟨v1,rfl,Jf,af⟩;have Jg:=iH Jf;have HB1:=iH af;clear Jf af)
   go_loopw [6,27] (fun nv i wr=>∃k:Nat,k<=ls.length/\i=.int .i64 k/\Hid (wr.ownsRow w.heap.size 211 1 nv (fB ls k).length (en enc (fB ls k)))/\Hid (Below w.heap.size w wr)) (fun _ i _=>ls.length-(intOf i).toNat)
   case atStart=>exact⟨0,aS _,rfl,Jg,HB1⟩
   case round=>
    clear Jg HB1;obtain⟨k,hk,rfl,HO,HB⟩:=hrel;by_cases hlt:k<ls.length
    ·have hc:=(HB.out.cell (p:=⟨B,k,none⟩) (aO _ _ (HC.out k hlt))).trans (HC.out k hlt)
     have vd:=iH ((HS.out _ (aX hlt)).later HB.out);have dx:=uH (ls:=ls) (k+1) hlt (aA _);have HS2:=iH (pJ hlt);have fw:Hid ((fB ls k).length+ls[k].2.length<=100000):=by show _<=_;rw[HS2.out,aB]at dx;have:=HN.out;omega
     clear dx;go_wp2_with (refine iP rfl _ _ 132 rfl w.heap.size 211 i (.pointer none) 8 Tryz.underlying132 HI.out.1 HI.out.2.1 HI.out.2.2.1 HI.out.2.2.2 rfl uAv rfl HO.out rfl vd.out (uD bq _) uNy uNu HB.out.size ?_;intro v2 w2 xu kx;have Eg:=iH xu;have aq:=iH (HB.out.trans (jR kx HB.out.size (vM HO.out)));clear xu kx)
     exact Ad4
    ·obtain rfl:k=ls.length:=by omega
     go_wp2_with fail
     go_ret;exact⟨_,rfl,by rw[mu.out];exact HO.out,HB.out⟩
def pv:Option Nat->Value
 |none=>.pointer none
 |some b=>.pointer (some ⟨b,0,none⟩)
theorem aO9 (p:Option Nat):(pv p).oneCell'=true:=by cases p<;>rfl
abbrev Pl:=Option Nat×Option Nat
def plc (p:Pl):Array Value:=#[pv p.1,pv p.2]
def oK (p:Pl):List Value:=[pv p.1,pv p.2]
theorem pX (p:Pl):(oK p).length=2:=rfl
theorem aOh (p:Pl):(plc p).toList=oK p:=rfl
theorem aI7 (p:Pl):∀u∈oK p,u.oneCell'=true:=by
 intro u hu;simp only[oK,bL,gL,uS]at hu;rcases hu with rfl|rfl
 ·exact aO9 _
 ·exact aO9 _
theorem gW (p:Pl):(plc p).all (·.oneCell')=true:=by
 rw[cD];intro u hu;exact aI7 p u (by rw[<-aOh];simpa using hu)
def enE (b:Nat):List Value:=[pv (some b)]
theorem aBA (b:Nat):(enE b).length=1:=rfl
theorem aKU (b:Nat):∀u∈enE b,u.oneCell'=true:=by
 intro u hu;simp only[enE,bL,gL,uS]at hu;subst hu;rfl
section
variable {P : Program}
theorem aDy {w:World} {ops:Array Oper} {rest:List Oper} {o:Oper} {a:Act} {Q:Exit->Act->World->Prop} (fj:o.guard=none) (d x:Operand) (dT sT:TypeId)
  (ho:o.op=.call {callee:=.builtin .copy,args:=#[d,x],argTypes:=#[dT,sT]}) (elem:TypeId) (hu:P.underlying dT=some (.slice elem)) (s:Nat) (de:(P.info? elem).map (·.size)=some s)
  (g q ly r9:Nat) (hd:a.eval d=.slice (some ⟨g,q,none⟩) ly r9) (v:Value) (hv:a.eval x=v) {S:Nat->Prop} (cs:List Value) (n:Nat) (hF:bY S w s v cs n) (dx:n<=ly)
  (T:TypeId) (aj:Array Value) (hg:w.heap[g]? =some (.cells aj T (0,0))) (u9:q+n*s<=aj.size) (h1:∀u∈cs,u.oneCell'=true)
  (h:∀w',w'.heap[g]? =some (.cells (aj.toList.take q++cs++aj.toList.drop (q+cs.length)).toArray T (0,0))->iL g w w'->wpList P ops Q rest (a.put o.dst (goInt n)) w'):wpList P ops Q (o::rest) a w:=by
 refine gC fj fun K hK=> ?_
 have an:=hF.len;obtain⟨ap,cap,rfl,h2,h3,h4⟩:=hF;rcases h4 with⟨rfl,rfl⟩|⟨g',q',rfl,_,_,hc⟩
 ·obtain rfl:n=0:=by omega
  obtain rfl:cs=[]:=aQ uUx;have cr:=aAP (P:=P) w dT sT o.type elem (some ⟨g,q,none⟩) none ly r9 s 0 hu de;unfold Oper.wp;simp[execOp,ho,resolve,invoke,builtin,hd,hv,cr,Result.andThen];exact hK _ _ (h w (by simpa using hg) (iL.refl _ _))
 ·have hl:=aII (P:=P) w ⟨g',q',none⟩ cs (fun j u hu=>by rw[rE];exact hc j u hu)
  have df:=lZ P g q T cs 0 aj w hg uCy h1;have Aa:Nat.min n ly=n:=fT dx;have cr:(Builtin.copy_ #[dT,sT] o.type #[.slice (some ⟨g,q,none⟩) ly r9,.slice (some ⟨g',q',none⟩) n cap]).run P w=
    .ok (goInt n) (w.setRow g (aj.toList.take q++cs++aj.toList.drop (q+cs.length)).toArray):=by
   cases hq:P.info? elem with
   |none=>simp[hq]at de
   |some i=>
    have hi:i.size=s:=by simpa[hq]using de
    rw[an]at hl;simp only[jV]at df;simp[Builtin.copy_,jY hu,Builtin.lenOf,Builtin.firstCells,sizeOf,typeInfo,hq,hi,Aa,hl,df]
  unfold Oper.wp;simp[execOp,ho,resolve,invoke,builtin,hd,hv,cr,Result.andThen];refine hK _ _ (h _ ?_ ?_)
  ·simpa using lY w g _ (aj.toList.take q++cs++aj.toList.drop (q+cs.length)).toArray _ _ hg
  ·simpa using iI w g (aj.toList.take q++cs++aj.toList.drop (q+cs.length)).toArray
end
def aBi {α:Type} (enc:α->List Value) (z:List Value) (xs:List α) (n:Nat):List Value:=en enc xs++(List.replicate (n-xs.length) z).flatten
theorem zN (z:List Value) (n:Nat):(List.replicate n z).flatten.length=n*z.length:=by simp
theorem aOD {α:Type} {enc:α->List Value} {z:List Value} {xs:List α} {n s:Nat} (cf:∀x,(enc x).length=s) (hz:z.length=s) (h:xs.length<=n):(aBi enc z xs n).length=n*s:=by
 unfold aBi;rw[aB,lQ cf,zN,hz,<-fJ];congr 1
 omega
theorem aOE {α:Type} {enc:α->List Value} {z:List Value} {xs ys:List α} {n s:Nat} (cf:∀x,(enc x).length=s) (hz:z.length=s) (h:xs.length+ys.length<=n):
  (aBi enc z xs n).take (xs.length*s)++en enc ys++(aBi enc z xs n).drop (xs.length*s+(en enc ys).length)=aBi enc z (xs++ys) n:=by
 have hl:(en enc xs).length=xs.length*s:=lQ cf xs;unfold aBi;rw[nM hO,bC hO,aBc,gM hO,aT,hl,lQ cf,mY,aD0,bG,bG];congr 2
 rw[aB];rw[show n-xs.length=ys.length+(n-(xs.length+ys.length)) by omega,<-aNf,List.flatten_append,aBc,gM (by rw[zN,hz];exact aA _),aT,zN,hz,aBF,rZ]
theorem aRt (n:Nat):(madeCells #[.pointer none,.pointer none] (n*2)).toList=aBi oK [.pointer none,.pointer none] [] n:=by
 apply aA6;intro j;unfold aBi;rw[show en oK []=[]from rfl,aT,Array.getElem?_toList,aK,Nat.sub_zero];by_cases hj:j<n*2
 ·rw[aBy _ _ _ hj,show(List.replicate n [(.pointer none:Value),.pointer none]).flatten=List.replicate (n*2) (.pointer none)from by
   clear hj;induction n with
   |zero=>rfl
   |succ n ih=>
    rw[gA,rX,ih,fJ,aFa,Nat.add_comm (n*2) 2,<-aNf];rfl]
  rw[List.getElem?_replicate,if_pos hj];rcases Nat.mod_two_eq_zero_or_one j with h|h
  ·simp[h]
  ·simp[h]
 ·rw[Array.getElem?_eq_none (by rw[oV];omega),List.getElem?_eq_none (by rw[zN];simp;omega)]
theorem aFI (w:World):(sizeOf (Tryz.prog.elem 129)).run Tryz.prog w=.ok 2 w:=by
 have e:Tryz.prog.elem 129=258:=by kernel_rfl
 rw[e];obtain⟨i,hi,_,h1,_⟩:=dO aKl;simp[sizeOf,typeInfo,hi,h1]
theorem aCk:Tryz.prog.underlying 129=some (.slice (Tryz.prog.elem 129)):=by kernel_rfl
theorem aRa (g k N:Nat) (hk:k<=N):∃q,q<=k*2/\(k<N->q=k*2)/\∀w,(Instr.slice 129 (.slice (some ⟨g,0,none⟩) N N) (some (.int .i64 (k:Int))) none none).run Tryz.prog w=.ok (.slice (some ⟨g,q,none⟩) (N-k) (N-k)) w:=by
 refine⟨if N=k then 0 else k*2,by split<;>omega,fun h=>if_neg hO,fun w=> ?_⟩;rw[run_slice_l w _ (some ⟨g,0,none⟩) N N aCk _ _ hO hO,aFI];simp only[cR,kM];by_cases h:N=k
 ·simp[h,sliced]
 ·simp[h,sliced,rE]
theorem aM3 (w:World) {S:Nat->Prop} (B:Nat) (ls:List (Value×List Pl)) (bt:∀k (hk:k<ls.length),w.cell? ⟨B,k,none⟩=some ls[k].1) (ev:∀p∈ls,bY S w 2 p.1 (en oK p.2) p.2.length)
  (hn:(fB ls ls.length).length<=4096) (hl:ls.length<=100):
  Calls Tryz.prog 222 #[.slice (some ⟨B,0,none⟩) ls.length ls.length] w fun e w'=>∃a n c,e=.returned (.slice a n c)/\dE (fun g=>w.heap.size<=g) w' 258 2 (.slice a n c) (en oK (fB ls ls.length)) (fB ls ls.length).length/\Below w.heap.size w w':=by
 obtain⟨i,hi,hz,h1,h2⟩:=dO aKl;have HS:=iH ev;have HC:=iH bt;clear ev bt;go_enter Tryz.func222,Tryz.ntmps222;go_wp2_with fail
 go_loopw [3,12] (fun n i wr=>∃k:Nat,k<=ls.length/\i=.int .i64 k/\n=.int .i64 ((fB ls k).length:Nat)/\w=wr) (fun _ i _=>ls.length-(intOf i).toNat)
 case atStart=>exact⟨0,aS _,rfl,rfl,rfl⟩
 case round=>
  obtain⟨k,hk,rfl,rfl,rfl⟩:=hrel;by_cases hlt:k<ls.length
  ·have hc:=HC.out k hlt
   obtain⟨a,cap,ha,_⟩:=HS.out _ (aX hlt);have dx:=uH (ls:=ls) (k+1) hlt (aA _);have xr:((fB ls (k+1)).length:Int)<=4096:=by omega
   have hs:=pJ hlt;have vb:((fB ls (k+1)).length:Int)=(fB ls k).length+ls[k].2.length:=by rw[hs,aB];omega
   rw[vb]at xr;have j4:=iH vb;rw[ha]at hc;clear hs vb dx;go_wp2_with fail
   go_roundw
   case rel=>exact⟨k+1,by omega,by simp,by rw[j4.out],trivial⟩
   case measure=>simp[intOf];omega
  ·obtain rfl:k=ls.length:=by omega
   by_cases h0:(fB ls ls.length).length=0
   ·have Dj:((fB ls ls.length).length:Int)=0:=by omega
    go_wp2_with fail
    go_ret;exact⟨_,_,_,rfl,by rw[aQ h0];exact⟨rfl,.inl ⟨rfl,rfl⟩⟩,bB _ _⟩
   ·have Dj:(((fB ls ls.length).length:Int)==0)=false:=aE.2 hO
    obtain⟨N,hN⟩:∃N,N=(fB ls ls.length).length:=⟨_,rfl⟩
    have HN:=iH hN;have HM:=iH hn;have HP:=iH h0;rw[<-hN]at Dj;rw[<-hN];have Jj:(N:Int)<=4096:=by omega
    clear hN hn h0;go_wp2_with (refine nI _ rfl _ _ 129 rfl 258 i (.agg #[.pointer none,.pointer none]) 2 Tryz.underlying129 hi hz h1 .i64 .i64 N rfl rfl (by rw[h2];have:=HM.out;have:=HN.out;omega) (by have:=HM.out;have:=HN.out;omega) ?_)
    go_loopw [7,27] (fun at_ i v=>∃k:Nat,k<=ls.length/\i=.int .i64 k/\at_=.int .i64 ((fB ls k).length:Nat)/\Hid (v.heap[w.heap.size]? =some (.cells (aBi oK [.pointer none,.pointer none] (fB ls k) N).toArray 258 (0,0)))/\Below w.heap.size w v) (fun _ i _=>ls.length-(intOf i).toNat)
    case atStart=>
     refine⟨0,aS _,rfl,rfl,?_,Below.newly' _ _⟩;show _=_;have e:(aBi oK [.pointer none,.pointer none] (fB ls 0) N).toArray=madeCells #[.pointer none,.pointer none] (N*2):=by
      rw[show fB ls 0=[]from by simp[fB],<-aRt]
     rw[e];exact aC _ _
    case round=>
     obtain⟨k,hk,rfl,rfl,hg,hb⟩:=hrel;have HB:=iH hb;clear hb;by_cases hlt:k<ls.length
     ·have hc:=(HB.out.cell (p:=⟨B,k,none⟩) (aO _ _ (HC.out k hlt))).trans (HC.out k hlt)
      have vd:=iH ((HS.out _ (aX hlt)).later HB.out);obtain⟨a,cap,ha,_⟩:=vd.out.shape;have dx:=uH (ls:=ls) (k+1) hlt (aA _);rw[<-HN.out]at dx;have hs:=pJ hlt;have vb:(fB ls (k+1)).length=(fB ls k).length+ls[k].2.length:=by rw[hs,aB]
      rw[vb]at dx;have j4:=iH vb;have fw:=iH dx;have Jk:=iH hs;have xr:((fB ls k).length:Int)+ls[k].2.length<=N:=by omega
      rw[ha]at hc vd;clear hs vb dx ha;obtain⟨q,qx,Jl,cr⟩:=aRa w.heap.size (fB ls k).length N hO;have ve:=iH qx;have El:=iH Jl;have Wd:=iH (aOD (z:=[.pointer none,.pointer none]) (xs:=fB ls k) (n:=N) pX rfl hO);clear qx Jl;go_wp2_with (refine aDy rfl _ _ 129 129 rfl 258 Tryz.underlying129 2 dN w.heap.size q (N-(fB ls k).length) (N-(fB ls k).length) rfl _ rfl (en oK ls[k].2) ls[k].2.length vd.out uNu 258 _ hg.out (by have:=fw.out;have:=ve.out;have:=Wd.out;simp;omega) (uD aI7 _) ?_;intro w2 h2 k2;have HG2:=iH h2;have du:=iH k2;clear h2 k2)
      go_roundw
      case rel=>
       refine⟨k+1,by omega,by simp,by rw[j4.out];simp,?_,HB.out.trans (du.out.below (aA _))⟩;show _=_;rw[HG2.out,Jk.out,<-aOE (s:=2) pX rfl fw.out];simp only[aGz];by_cases T4:(fB ls k).length<N
       ·rw[El.out T4]
       ·have hz:ls[k].2=[]:=aQ uNu
        rw[hz,show en oK []=[]from rfl];simp
      case measure=>simp[intOf];omega
     ·obtain rfl:k=ls.length:=by omega
      go_wp2_with fail
      go_ret;have hN:=HN.out;have hm:aBi oK [.pointer none,.pointer none] (fB ls ls.length) N=en oK (fB ls ls.length):=by unfold aBi;rw[<-hN,aBF];simp
      refine⟨_,_,_,rfl,⟨lQ pX _,.inr ⟨by have:=HP.out;omega,w.heap.size,N,_,(0,0),by rw[<-hN],by omega,aA _,hg.out,fun j u hu=> ?_⟩⟩,HB.out⟩;rw[hm];simpa using hu
end Go.Proofs.YthmfgidbcghnfaaGreatDoor
namespace Go.Proofs.YthmfgidbcghnfaaGreatDoor
open Go.RowKit
theorem aFC (c:Int) (w:World) (h:Esc w) (h1:((34:Int)==c)=false) (h2:((92:Int)==c)=false) (h3:((10:Int)==c)=false) (h4:((9:Int)==c)=false) (h5:((13:Int)==c)=false):Calls Tryz.prog 157 #[.int .u8 c] w fun e w'=>e=.returned (.tuple #[.int .u8 0,.bool false])/\Below w.heap.size w w':=by
 obtain⟨tt,fr,hg⟩:=h.heap;have HG:=iH hg;have i0:=pF;have i1:=pE;have i2:=pD;have i3:=pC;have i4:=pB;have i5:=pA;clear h hg;rcases Bool.eq_false_or_eq_true ((47:Int)==c)with h6|h6
 all_goals
  go_enter Tryz.func157,Tryz.ntmps157;exact Aa1
theorem aDQ (w:World) (h:Esc w):Calls Tryz.prog 157 #[.int .u8 34] w fun e w'=>e=.returned (.tuple #[.int .u8 34,.bool true])/\Below w.heap.size w w':=by
 obtain⟨tt,fr,hg⟩:=h.heap;have HG:=iH hg;have i0:=pF;have i1:=pE;have i2:=pD;have i3:=pC;have i4:=pB;have i5:=pA;clear h hg;go_enter Tryz.func157,Tryz.ntmps157;exact Aa1
theorem aDP (w:World) (h:Esc w):Calls Tryz.prog 157 #[.int .u8 92] w fun e w'=>e=.returned (.tuple #[.int .u8 92,.bool true])/\Below w.heap.size w w':=by
 obtain⟨tt,fr,hg⟩:=h.heap;have HG:=iH hg;have i0:=pF;have i1:=pE;have i2:=pD;have i3:=pC;have i4:=pB;have i5:=pA;clear h hg;go_enter Tryz.func157,Tryz.ntmps157;exact Aa1
theorem aDS (w:World) (h:Esc w):Calls Tryz.prog 157 #[.int .u8 10] w fun e w'=>e=.returned (.tuple #[.int .u8 110,.bool true])/\Below w.heap.size w w':=by
 obtain⟨tt,fr,hg⟩:=h.heap;have HG:=iH hg;have i0:=pF;have i1:=pE;have i2:=pD;have i3:=pC;have i4:=pB;have i5:=pA;clear h hg;go_enter Tryz.func157,Tryz.ntmps157;exact Aa1
theorem aFD (w:World) (h:Esc w):Calls Tryz.prog 157 #[.int .u8 9] w fun e w'=>e=.returned (.tuple #[.int .u8 116,.bool true])/\Below w.heap.size w w':=by
 obtain⟨tt,fr,hg⟩:=h.heap;have HG:=iH hg;have i0:=pF;have i1:=pE;have i2:=pD;have i3:=pC;have i4:=pB;have i5:=pA;clear h hg;go_enter Tryz.func157,Tryz.ntmps157;exact Aa1
theorem aDR (w:World) (h:Esc w):Calls Tryz.prog 157 #[.int .u8 13] w fun e w'=>e=.returned (.tuple #[.int .u8 114,.bool true])/\Below w.heap.size w w':=by
 obtain⟨tt,fr,hg⟩:=h.heap;have HG:=iH hg;have i0:=pF;have i1:=pE;have i2:=pD;have i3:=pC;have i4:=pB;have i5:=pA;clear h hg;go_enter Tryz.func157,Tryz.ntmps157;exact Aa1
theorem aDO (c:Int) (w:World) (h:Esc w) (h1:((34:Int)==c)=false) (h2:((92:Int)==c)=false) (h3:((110:Int)==c)=false) (h4:((116:Int)==c)=false) (h5:((114:Int)==c)=false) (h6:((47:Int)==c)=false):Calls Tryz.prog 189 #[.int .u8 c] w fun e w'=>e=.returned (.tuple #[.int .u8 0,.bool false])/\Below w.heap.size w w':=by
 obtain⟨tt,fr,hg⟩:=h.heap;have HG:=iH hg;have i0:=pF;have i1:=pE;have i2:=pD;have i3:=pC;have i4:=pB;have i5:=pA;clear h hg;go_enter Tryz.func189,Tryz.ntmps189;exact Aa1
theorem aCd (w:World) (h:Esc w):Calls Tryz.prog 189 #[.int .u8 34] w fun e w'=>e=.returned (.tuple #[.int .u8 34,.bool true])/\Below w.heap.size w w':=by
 obtain⟨tt,fr,hg⟩:=h.heap;have HG:=iH hg;have i0:=pF;have i1:=pE;have i2:=pD;have i3:=pC;have i4:=pB;have i5:=pA;clear h hg;go_enter Tryz.func189,Tryz.ntmps189;exact Aa1
theorem aCb (w:World) (h:Esc w):Calls Tryz.prog 189 #[.int .u8 92] w fun e w'=>e=.returned (.tuple #[.int .u8 92,.bool true])/\Below w.heap.size w w':=by
 obtain⟨tt,fr,hg⟩:=h.heap;have HG:=iH hg;have i0:=pF;have i1:=pE;have i2:=pD;have i3:=pC;have i4:=pB;have i5:=pA;clear h hg;go_enter Tryz.func189,Tryz.ntmps189;exact Aa1
theorem aBh (w:World) (h:Esc w):Calls Tryz.prog 189 #[.int .u8 110] w fun e w'=>e=.returned (.tuple #[.int .u8 10,.bool true])/\Below w.heap.size w w':=by
 obtain⟨tt,fr,hg⟩:=h.heap;have HG:=iH hg;have i0:=pF;have i1:=pE;have i2:=pD;have i3:=pC;have i4:=pB;have i5:=pA;clear h hg;go_enter Tryz.func189,Tryz.ntmps189;exact Aa1
theorem aBf (w:World) (h:Esc w):Calls Tryz.prog 189 #[.int .u8 116] w fun e w'=>e=.returned (.tuple #[.int .u8 9,.bool true])/\Below w.heap.size w w':=by
 obtain⟨tt,fr,hg⟩:=h.heap;have HG:=iH hg;have i0:=pF;have i1:=pE;have i2:=pD;have i3:=pC;have i4:=pB;have i5:=pA;clear h hg;go_enter Tryz.func189,Tryz.ntmps189;exact Aa1
theorem aBg (w:World) (h:Esc w):Calls Tryz.prog 189 #[.int .u8 114] w fun e w'=>e=.returned (.tuple #[.int .u8 13,.bool true])/\Below w.heap.size w w':=by
 obtain⟨tt,fr,hg⟩:=h.heap;have HG:=iH hg;have i0:=pF;have i1:=pE;have i2:=pD;have i3:=pC;have i4:=pB;have i5:=pA;clear h hg;go_enter Tryz.func189,Tryz.ntmps189;exact Aa1
theorem aCc (w:World) (h:Esc w):Calls Tryz.prog 189 #[.int .u8 47] w fun e w'=>e=.returned (.tuple #[.int .u8 47,.bool true])/\Below w.heap.size w w':=by
 obtain⟨tt,fr,hg⟩:=h.heap;have HG:=iH hg;have i0:=pF;have i1:=pE;have i2:=pD;have i3:=pC;have i4:=pB;have i5:=pA;clear h hg;go_enter Tryz.func189,Tryz.ntmps189;exact Aa1
end Go.Proofs.YthmfgidbcghnfaaGreatDoor
namespace Go.Proofs.YthmfgidbcghnfaaGreatDoor
open Go.RowKit Go.Shelf
section
variable {P : Program} {md : Region.Mode} {ops : Array Oper} {Q : Exit → Act → World → Prop} {S : World → Prop} {U : List Nat} {n : Nat}
def qA (n:Nat) (P:Program) (md:Region.Mode) (ops:Array Oper) (Q:Exit->Act->World->Prop) (S:World->Prop) (U:List Nat):Nat->Array Bool->Act->World->Prop
 |0,listed,a,w=>Region.ready md ops listed=[]/\Q .normal a w
 |fuel+1,listed,a,w=>
  (Region.ready md ops listed=[]->Q .normal a w)/\
  ∀i∈Region.ready md ops listed,wpOpIn Fence.wide n P ops Q i (fun a' w'=>(U.contains i=false->S w')/\qA n P md ops Q S U fuel (listed.setIfInBounds i true) a' w') a w
theorem aBK:∀(fuel:Nat) (listed:Array Bool) (a:Act) (w:World),qA n P md ops Q S U fuel listed a w->wpAnyIn Fence.wide n P md ops Q fuel listed a w
 |0,_,_,_,h=>h
 |fuel+1,_,_,_,h=>⟨h.1,fun i hi=>wpOpIn_mono (fun a' w' h'=>aBK fuel _ a' w' h'.2) (h.2 i hi)⟩
structure aGp (n:Nat) (P:Program) (ops:Array Oper) (Q:Exit->Act->World->Prop) (S:World->Prop) (i:Nat) (oi:Oper) (v:Value) (Y:Act->Prop):Prop where
 same:∀a a':Act,Y a->execOp a'.eval oi=execOp a.eval oi->Region.wanted oi (yielded ops a'.tmps)=Region.wanted oi (yielded ops a.tmps)->Y a'
 step:∀(a:Act) (w:World) (K:Act->World->Prop),Y a->S w->K (a.put oi.dst v) w->wpOpIn Fence.wide n P ops Q i K a w
theorem aLr {i j:Nat} {oi oj:Oper} {v:Value} {Y:Act->Prop} (hT:aGp n P ops Q S i oi v Y) (hj:ops[j]? =some oj) (V6:oi.apart ops oj=true)
  (Wa:∀cs b,oi.op≠.select cs b) (Tz:∀cs b,oj.op≠.select cs b)
  (hQ:∀c a w,Q (.panic c) (a.put oi.dst v) w->Q (.panic c) a w) {K:Act->World->Prop} {a:Act} {w:World}
  (hy:Y a) (h:wpOpIn Fence.wide n P ops Q j K (a.put oi.dst v) w):
  wpOpIn Fence.wide n P ops Q j (fun a' w'=>Y a'/\K (a'.put oi.dst v) w') a w:=by
 obtain⟨h1,h2,h3⟩:=Oper.apart_spec V6;have oc:∀(a:Act),Y a->∀u,Y (a.put oj.dst u):=fun a hy u=>
  hT.same _ _ hy (aIK oi Wa a oj.dst u h3) (wanted_put oi a oj.dst u h3)
 have D9:∀d,Y {a with defers:=d::a.defers}:=fun d=>hT.same _ _ hy rfl rfl
 unfold wpOpIn at*
 simp only[hj]at*
 rw[wanted_put oj a oi.dst v h1]at h;split
 ·rename_i hw
  simp only[hw,xO]at h;unfold Oper.wpIn at*
  refine⟨fun _ _=>trivial,?_⟩;have h:=h.2;rw[show Fence.wide.round=none from rfl,aDs,aIK oj Tz a oi.dst v h1]at h;rw[show Fence.wide.round=none from rfl,aDs];generalize(execOp a.eval oj).run P w=r at*
  cases r with
  |ok x w'=>
   cases x<;>simp only[Oper.uponIn]at h ⊢
   case value u=>exact⟨oc a hy u,by rw[<-iU a v u h2];exact h⟩
   case skip=>exact⟨oc a hy _,by rw[<-iU a v undef h2];exact h⟩
   case defer d=>
    refine⟨oc _ (D9 d) _,?_⟩;rw[<-iU _ v undef h2,<-Act.put_defers];exact h
   case enter f args=>
    refine⟨h.1,CallsIn.mono h.2 fun e Ea he=> ?_⟩;cases e with
    |returned u=>exact⟨oc a hy u,by rw[<-iU a v u h2];exact he⟩
    |panicked c=>exact hQ _ _ _ he
    |outgrown=>exact he
   case row row args=>exact⟨h.1,RowsIn.mono h.2 fun u Ea he=>⟨oc a hy u,by rw[<-iU a v u h2];exact he⟩⟩
   case round l f tmps assign body=>
    refine⟨h.1,RoundIn.mono h.2 fun e Ea he=> ?_⟩;cases e with
    |returned u=>exact⟨oc a hy u,by rw[<-iU a v u h2];exact he⟩
    |panicked c=>exact hQ _ _ _ he
    |outgrown=>exact he
  |halt x w'=>
   cases x<;>simp only[Oper.uponIn]at h ⊢
   case panic u=>exact hQ _ _ _ h
 ·rename_i hw
  simp only[hw]at h;exact⟨fun _ _=>trivial,oc a hy _,by rw[<-iU a v undef h2];exact h.2⟩
theorem yV {i:Nat} {oi:Oper} {v:Value} {Y:Act->Prop} (hT:aGp n P ops Q S i oi v Y) (hi:ops[i]? =some oi) (ob:∀(j:Nat) (o:Oper) cs b,ops[j]? =some o->o.op≠.select cs b)
  (hQ:∀c a w,Q (.panic c) (a.put oi.dst v) w->Q (.panic c) a w) (hw:kZ md ops U i=true):
  ∀(fuel:Nat) (listed:Array Bool) (a:Act) (w:World),
   (∀j oj,ops[j]? =some oj->j≠i->listed.getD j true=false->(∀e∈oj.after,Region.binds md e=true->e.on≠i)->oi.apart ops oj=true)->
   uL md ops listed->i∈Region.ready md ops listed->Y a->S w->
   qA n P md ops Q S U fuel (listed.setIfInBounds i true) (a.put oi.dst v) w->qA n P md ops Q S U (fuel+1) listed a w:=by
 intro fuel;induction fuel with
 |zero=>
  intro listed a w _ _ hr hy hS H;refine⟨fun h=>uEw,fun j hj=> ?_⟩;by_cases ga:j=i
  ·subst ga;exact hT.step _ _ _ hy hS ⟨fun _=>hS,H⟩
  ·have:=kN hj ga
   rw[H.1]at this;cases this
 |succ fuel ih=>
  intro listed a w jk mq hr hy hS H;refine⟨fun h=>uEw,fun j hj=> ?_⟩;by_cases ga:j=i
  ·subst ga;exact hT.step _ _ _ hy hS ⟨fun _=>hS,H⟩
  ·have h1:=H.2 j (kN hj ga)
   obtain⟨mg,oj,r8,hall⟩:=xS.1 hj;have dw:listed.getD i false=false:=by
    exact Ab4
   have u7:∀e∈oj.after,Region.binds md e=true->e.on≠i:=fun e he hb heq=>by
    have h1:=hall e he hb;rw[heq,dw]at h1;cases h1
   have K6:U.contains j=false:=by
    exact Ag1
   have h2:=aLr hT r8 (jk j oj r8 ga mg u7) (fun cs b=>ob i oi cs b hi) (fun cs b=>ob j oj cs b r8) hQ hy h1;have ke:∀k ok,ops[k]? =some ok->k≠i->(listed.setIfInBounds j true).getD k true=false->
     (∀e∈ok.after,Region.binds md e=true->e.on≠i)->oi.apart ops ok=true:=fun k ok hk uh Bi ui=>by
    refine jk k ok hk uh ?_ ui;by_cases qt:j=k
    ·subst qt;exact mg
    ·rw[aF9 true qt]at Bi;exact Bi
   refine wpOpIn_mono (fun a' w' h3=>⟨fun hc=>h3.2.1 hc,ih (listed.setIfInBounds j true) a' w' ke (yN mq hj) (kN hr (kX ga)) h3.1 (h3.2.1 K6) ?_⟩) h2;rw[qI _ _ ga];exact h3.2.2
theorem aLH {i:Nat} {oi:Oper} {v:Value} (hi:ops[i]? =some oi):aGp n P ops Q S i oi v (YieldsIf P ops S oi v) where
 same _ _ hy he hw:=hy.of_same he hw
 step a w K hy hS h:=by
  unfold wpOpIn;simp only[hi];rcases hy with⟨hw,hv⟩|⟨hw,rfl⟩
  ·rw[if_pos hw]
   unfold Oper.wpIn;refine⟨fun _ _=>trivial,?_⟩;rw[show Fence.wide.round=none from rfl,aDs,hv w hS];exact h
  ·rw[if_neg (by rw[hw];simp)]
   exact⟨fun _ _=>trivial,h⟩
theorem aGS {i:Nat} {oi:Oper} {v:Value} (hi:ops[i]? =some oi):aGp n P ops Q S i oi v (lR P ops S oi v) where
 same _ _ hy he hw:=hy.of_same he hw
 step a w K hy hS h:=by
  obtain⟨hw,hv⟩:=hy;obtain⟨f,args,cr,hc⟩:=hv w hS;unfold wpOpIn;simp only[hi];rw[if_pos hw];unfold Oper.wpIn;refine⟨fun _ _=>trivial,?_⟩;rw[show Fence.wide.round=none from rfl,aDs,cr];refine⟨fun hh=>by simp[Fence.wide]at hh,(dD.2 hc).mono ?_⟩;rintro e w' ⟨rfl,rfl⟩;exact h
theorem gR {i:Nat} {oi:Oper} {v:Value} {fuel:Nat} {listed:Array Bool} {a:Act} {w:World} (hi:ops[i]? =some oi)
  (hs:Region.noSelect ops=true) (hf:Region.free md ops listed i=true) (hr:(Region.ready md ops listed).contains i=true) (hw:(kZ md ops U i&&oM md ops listed)=true)
  (hQ:∀c a w,Q (.panic c) (a.put oi.dst v) w->Q (.panic c) a w) (hy:YieldsIf P ops S oi v a) (hS:S w)
  (h:qA n P md ops Q S U fuel (listed.setIfInBounds i true) (a.put oi.dst v) w):qA n P md ops Q S U (fuel+1) listed a w:=
 yV (aLH hi) hi (mA hs) hQ (bH.1 hw).1 fuel listed a w (pR hi hf) (sY (bH.1 hw).2) uNv hy hS h
theorem aFd {i:Nat} {oi:Oper} {v:Value} {fuel:Nat} {listed:Array Bool} {a:Act} {w:World} (hi:ops[i]? =some oi)
  (hs:Region.noSelect ops=true) (hf:Region.free md ops listed i=true) (hr:(Region.ready md ops listed).contains i=true) (hw:(kZ md ops U i&&oM md ops listed)=true)
  (hQ:∀c a w,Q (.panic c) (a.put oi.dst v) w->Q (.panic c) a w) (hy:lR P ops S oi v a) (hS:S w)
  (h:qA n P md ops Q S U fuel (listed.setIfInBounds i true) (a.put oi.dst v) w):qA n P md ops Q S U (fuel+1) listed a w:=
 yV (aGS hi) hi (mA hs) hQ (bH.1 hw).1 fuel listed a w (pR hi hf) (sY (bH.1 hw).2) uNv hy hS h
theorem rI {listed:Array Bool} {a:Act} {w:World} (hr:Region.ready md ops listed=[]) (h:Q .normal a w):
  ∀fuel,qA n P md ops Q S U fuel listed a w
 |0=>⟨hr,h⟩
 |_+1=>⟨fun _=>h,by rw[hr];simp⟩
theorem xU {id:Nat} {a:Act} {w:World} (U:List Nat) (hm:P.follows .mixedOrders=true) (hS:S w.drew)
  (h:S w.drew->qA n P .any ops Q S U ops.size (Array.replicate ops.size false) a w.drew):(Code.region id ops true).wpIn Fence.wide n P Q a w:=
 wpIn_region_any hm (aBK _ _ _ _ (h hS))
theorem nS {fuel:Nat} {listed:Array Bool} {a:Act} {w:World} {i:Nat} {o:Oper} (hr:Region.ready md ops listed=[i]) (hU:U.contains i=true) (ho:ops[i]? =some o)
  (h:∀K':Act->World->Prop,Shut (∀a w,qA n P md ops Q S U fuel (listed.setIfInBounds i true) a w->K' a w)->if Region.wanted o (yielded ops a.tmps)=true then Oper.wpIn Fence.wide n P o a w K' Q else(∀f,o.about P w a.eval=some f->Fence.wide.fn f)/\K' (a.put o.dst undef) w):
  qA n P md ops Q S U (fuel+1) listed a w:=by
 refine⟨fun h0=>absurd (hr▸h0) uAy,fun j hj=> ?_⟩;rw[hr]at hj;obtain rfl:j=i:=by simpa using hj
 exact wpOpIn_step ho (fun K' hK=>h K' (fun a w hW=>hK a w ⟨(fun hc=>absurd (hU.symm.trans hc) uAv),hW⟩))
end
end Go.Proofs.YthmfgidbcghnfaaGreatDoor
