import Derived.Test.YtengibnpebfblaaGreatDoorQ0
import Derived.Test.YtengibnpebfblaaGreatDoorQ7
set_option maxRecDepth 1000000
set_option maxHeartbeats 8000000
set_option linter.unusedSimpArgs false
namespace Go.Proofs.YtengibnpebfblaaGreatDoor
open Go.RowKit
theorem sJ:(Tryz.prog.info? 161).map (fun i=>(i.zero,i.size,i.bytes))=some (some (.pointer none),1,8):=by kernel_rfl
theorem aHE:(Tryz.prog.info? 186).map (fun i=>(i.zero,i.size,i.bytes))=some (some (.agg #[.pointer none,.pointer none]),2,16):=by kernel_rfl
theorem dJ:(Tryz.prog.info? 186).map (·.size)=some 2:=by kernel_rfl
theorem iI:(Tryz.prog.info? 96).map (·.size)=some 3:=by kernel_rfl
theorem iP:(Tryz.prog.info? 93).map (·.size)=some 2:=by kernel_rfl
theorem fV:(Tryz.prog.info? 98).map (·.size)=some 6:=by kernel_rfl
theorem gr_ep (n:Nat) (hn:n<=200000) (w:World):Calls Tryz.prog 177 #[.slice none 0 0,.int .i64 (n:Int)] w fun e w'=>∃v,e=.returned v/\w'.ownsRow w.heap.size 161 1 v 0 []/\Below w.heap.size w w':=by
 by_cases h0:n=0
 ·subst h0
  go_enter Tryz.func177,Tryz.ntmps177;exact Ah0
 ·obtain⟨i,hi,hz,h1,h2⟩:=dV sJ
  have hrun:∀ty,(Builtin.append_ #[94,3] ty #[.slice none 0 0,.int .i64 (n:Int)]).run Tryz.prog w=.ok (.slice (some ⟨w.heap.size,0,none⟩) n (grownCap w n 0 161)) (w.drew.alloc (.cells (Builtin.zeroCells (.pointer none:Value).cells n++Builtin.zeroCells (.pointer none:Value).cells (grownCap w n 0 161-n)) 161)):=fun ty=>by
   have h:=xY (P:=Tryz.prog) w 94 3 ty 161 i (.pointer none) .i64 .i64 Tryz.underlying94 Tryz.underlying3 hi hz none 0 0 [] (aEE w.drew i.size 0 0 0) n uAu uAu uAu uAu uKz
    uJv
   simpa using h
  have hG1:=grownCap_ge w n 0 161;have hG2:=aGn w n 0 161 uCw;obtain⟨G,hG⟩:∃G,G=grownCap w n 0 161:=⟨_,rfl⟩
  rw[<-hG]at hrun hG1 hG2;have hG3:(G:Int)<=9223372036854775807:=by unfold maxLen at hG2;omega
  have hn3:(n:Int)<=200000:=by omega
  have hn0:(0:Int)<n:=by omega
  have HRUN:=iH hrun;have HG1:=iH hG1;have HG2:=iH hG2;have HN:=iH hn;clear hrun hG1 hG2 h0 hG hn;go_enter Tryz.func177,Tryz.ntmps177;go_wp2_with (refine pG rfl _ _ _ _ rfl rfl rfl HRUN.out ?_)
  go_ret;refine⟨_,rfl,World.ownsRow_made w.drew _ G (aE _) HG2.out ?_,Below.more (bE w) _⟩;have:=HG1.out;rw[Array.size_append,aDw,aDw];show n*1+(G-n)*1=G*1;omega
theorem cc_ep {α:Type} {enc:α->List Value} (hone:∀x,∀u∈enc x,u.oneCell'=true) (w:World) {S:Nat->Prop} (B:Nat) (ls:List (Value×List α))
  (hcells:∀k (hk:k<ls.length),w.cell? ⟨B,k,none⟩=some ls[k].1) (hcut:∀p∈ls,bZ S w 1 p.1 (en enc p.2) p.2.length) (hN:(eZ ls ls.length).length<=100000) (hl:ls.length<=1000):
  Calls Tryz.prog 149 #[.slice (some ⟨B,0,none⟩) ls.length ls.length] w fun e w'=>∃v,e=.returned v/\w'.ownsRow w.heap.size 161 1 v (eZ ls ls.length).length (en enc (eZ ls ls.length))/\Below w.heap.size w w':=by
 obtain⟨i,hi,hz,h1,h2⟩:=dV sJ;have HS:=iH hcut;have HC:=iH hcells;have HN:=iH hN;have HI:=iH (And.intro hi (And.intro hz (And.intro h1 h2)));clear hcut hcells hi hz h1 h2 hN;go_enter Tryz.func149,Tryz.ntmps149;go_wp2_with fail
 go_loopw [3,11] (fun n i wr=>∃k:Nat,k<=ls.length/\i=.int .i64 k/\n=.int .i64 ((eZ ls k).length:Nat)/\w=wr) (fun _ i _=>ls.length-(intOf i).toNat)
 case atStart=>exact⟨0,aQ _,rfl,rfl,rfl⟩
 case round=>
  obtain⟨k,hk,rfl,rfl,rfl⟩:=hrel;by_cases hlt:k<ls.length
  ·exact Aa4
  ·obtain rfl:k=ls.length:=by omega
   obtain⟨N,hN⟩:∃N,N=(eZ ls ls.length).length:=⟨_,rfl⟩
   have HGR:=iH (gr_ep N uTv w);have HNN:=iH hN;rw[<-hN];clear hN;go_wp2_with (go_at_call 177;refine HGR.out.mono ?_;rintro e w1 ⟨v1,rfl,ho1,hb1⟩;have HO1:=iH ho1;have HB1:=iH hb1;clear ho1 hb1)
   go_loopw [6,27] (fun nv i wr=>∃k:Nat,k<=ls.length/\i=.int .i64 k/\Hid (wr.ownsRow w.heap.size 161 1 nv (eZ ls k).length (en enc (eZ ls k)))/\Hid (Below w.heap.size w wr)) (fun _ i _=>ls.length-(intOf i).toNat)
   case atStart=>exact⟨0,aQ _,rfl,HO1,HB1⟩
   case round=>
    clear HO1 HB1;obtain⟨k,hk,rfl,HO,HB⟩:=hrel;by_cases hlt:k<ls.length
    ·have hc:=(HB.out.cell (p:=⟨B,k,none⟩) (aM _ _ (HC.out k hlt))).trans (HC.out k hlt)
     have HCUT:=iH ((HS.out _ (aO hlt)).later HB.out);have hle:=tV (ls:=ls) (k+1) hlt (aE _);have HS2:=iH (oB hlt);have HLE:Hid ((eZ ls k).length+ls[k].2.length<=100000):=by show _<=_;rw[HS2.out,aD]at hle;have:=HN.out;omega
     clear hle;go_wp2_with (refine nC rfl _ _ 94 rfl w.heap.size 161 i (.pointer none) 8 Tryz.underlying94 HI.out.1 HI.out.2.1 HI.out.2.2.1 HI.out.2.2.2 rfl uAv rfl HO.out rfl HCUT.out (xR hone _) uLw uKy HB.out.size ?_;intro v2 w2 ho2 hg2;have HO2:=iH ho2;have HB2:=iH (HB.out.trans (lQ hg2 HB.out.size (uN HO.out)));clear ho2 hg2)
     exact Ad0
    ·obtain rfl:k=ls.length:=by omega
     go_wp2_with fail
     go_ret;exact⟨_,rfl,by rw[HNN.out];exact HO.out,HB.out⟩
def pv:Option Nat->Value
 |none=>.pointer none
 |some b=>.pointer (some ⟨b,0,none⟩)
theorem aKy (p:Option Nat):(pv p).oneCell'=true:=by cases p<;>rfl
abbrev Pl:=Option Nat×Option Nat
def plc (p:Pl):Array Value:=#[pv p.1,pv p.2]
def nH (p:Pl):List Value:=[pv p.1,pv p.2]
theorem oW (p:Pl):(nH p).length=2:=rfl
theorem aOy (p:Pl):(plc p).size=2:=rfl
theorem aKG (p:Pl):(plc p).toList=nH p:=rfl
theorem aFY (p:Pl):∀u∈nH p,u.oneCell'=true:=by
 intro u hu;simp only[nH,bA,gX,wV]at hu;rcases hu with rfl|rfl
 ·exact aKy _
 ·exact aKy _
theorem gM (p:Pl):(plc p).all (·.oneCell')=true:=by
 rw[cO];intro u hu;exact aFY p u (by rw[<-aKG];simpa using hu)
def enE (b:Nat):List Value:=[pv (some b)]
theorem aAW (b:Nat):(enE b).length=1:=rfl
theorem aHY (b:Nat):∀u∈enE b,u.oneCell'=true:=by
 intro u hu;simp only[enE,bA,gX,wV]at hu;subst hu;rfl
section
variable {P : Program}
theorem aCp {w:World} {ops:Array Oper} {rest:List Oper} {o:Oper} {a:Act} {Q:Exit->Act->World->Prop} (hgd:o.guard=none) (d x:Operand) (dT sT:TypeId)
  (ho:o.op=.call {callee:=.builtin .copy,args:=#[d,x],argTypes:=#[dT,sT]}) (elem:TypeId) (hu:P.underlying dT=some (.slice elem)) (s:Nat) (hsz:(P.info? elem).map (·.size)=some s)
  (g q dLen dCap:Nat) (hd:a.eval d=.slice (some ⟨g,q,none⟩) dLen dCap) (v:Value) (hv:a.eval x=v) {S:Nat->Prop} (cs:List Value) (n:Nat) (hF:bZ S w s v cs n) (hle:n<=dLen)
  (T:TypeId) (cur:Array Value) (hg:w.heap[g]? =some (.cells cur T (0,0))) (hfit:q+n*s<=cur.size) (h1:∀u∈cs,u.oneCell'=true)
  (h:∀w',w'.heap[g]? =some (.cells (cur.toList.take q++cs++cur.toList.drop (q+cs.length)).toArray T (0,0))->jK g w w'->wpList P ops Q rest (a.put o.dst (goInt n)) w'):wpList P ops Q (o::rest) a w:=by
 refine cW hgd fun K hK=> ?_
 have hlen:=hF.len;obtain⟨ap,cap,rfl,h2,h3,h4⟩:=hF;rcases h4 with⟨rfl,rfl⟩|⟨g',q',rfl,_,_,hc⟩
 ·obtain rfl:n=0:=by omega
  obtain rfl:cs=[]:=aT uRx;have hrun:=aAm (P:=P) w dT sT o.type elem (some ⟨g,q,none⟩) none dLen dCap s 0 hu hsz;unfold Oper.wp;simp[execOp,ho,resolve,invoke,builtin,hd,hv,hrun,Result.andThen];exact hK _ _ (h w (by simpa using hg) (jK.refl _ _))
 ·have hl:=aGm (P:=P) w ⟨g',q',none⟩ cs (fun j u hu=>by rw[qQ];exact hc j u hu)
  have hst:=kZ P g q T cs 0 cur w hg uDv h1;have hmin:Nat.min n dLen=n:=gA hle;have hrun:(Builtin.copy_ #[dT,sT] o.type #[.slice (some ⟨g,q,none⟩) dLen dCap,.slice (some ⟨g',q',none⟩) n cap]).run P w=
    .ok (goInt n) (w.setRow g (cur.toList.take q++cs++cur.toList.drop (q+cs.length)).toArray):=by
   cases hq:P.info? elem with
   |none=>simp[hq]at hsz
   |some i=>
    have hi:i.size=s:=by simpa[hq]using hsz
    rw[hlen]at hl;simp only[kA]at hst;simp[Builtin.copy_,rF hu,Builtin.lenOf,Builtin.firstCells,sizeOf,typeInfo,hq,hi,hmin,hl,hst]
  unfold Oper.wp;simp[execOp,ho,resolve,invoke,builtin,hd,hv,hrun,Result.andThen];refine hK _ _ (h _ ?_ ?_)
  ·simpa using mK w g _ (cur.toList.take q++cs++cur.toList.drop (q+cs.length)).toArray _ _ hg
  ·simpa using jA w g (cur.toList.take q++cs++cur.toList.drop (q+cs.length)).toArray
end
def aAK {α:Type} (enc:α->List Value) (z:List Value) (xs:List α) (n:Nat):List Value:=en enc xs++(List.replicate (n-xs.length) z).flatten
theorem zC (z:List Value) (n:Nat):(List.replicate n z).flatten.length=n*z.length:=by simp
theorem aKU {α:Type} {enc:α->List Value} {z:List Value} {xs:List α} {n s:Nat} (henc:∀x,(enc x).length=s) (hz:z.length=s) (h:xs.length<=n):(aAK enc z xs n).length=n*s:=by
 unfold aAK;rw[aD,oA henc,zC,hz,<-gW];congr 1
 omega
theorem aKV {α:Type} {enc:α->List Value} {z:List Value} {xs ys:List α} {n s:Nat} (henc:∀x,(enc x).length=s) (hz:z.length=s) (h:xs.length+ys.length<=n):
  (aAK enc z xs n).take (xs.length*s)++en enc ys++(aAK enc z xs n).drop (xs.length*s+(en enc ys).length)=aAK enc z (xs++ys) n:=by
 have hl:(en enc xs).length=xs.length*s:=oA henc xs;unfold aAK;rw[mL uAu,aZ uAu,aAI,eD uAu,bD,hl,oA henc,mA,aC0,bN,bN];congr 2
 rw[aD];rw[show n-xs.length=ys.length+(n-(xs.length+ys.length)) by omega,<-aJA,List.flatten_append,aAI,eD (by rw[zC,hz];exact aE _),bD,zC,hz,aB0,rM]
theorem aMN (n:Nat):(madeCells #[.pointer none,.pointer none] (n*2)).toList=aAK nH [.pointer none,.pointer none] [] n:=by
 apply List.ext_getElem?;intro j;unfold aAK;rw[show en nH []=[]from rfl,bD,Array.getElem?_toList,bG,Nat.sub_zero];by_cases hj:j<n*2
 ·rw[aAU _ _ _ hj,show(List.replicate n [(.pointer none:Value),.pointer none]).flatten=List.replicate (n*2) (.pointer none)from by
   clear hj;induction n with
   |zero=>rfl
   |succ n ih=>
    rw[List.replicate_succ,rL,ih,gW,Nat.one_mul,aB2 (n*2) 2,<-aJA];rfl]
  rw[List.getElem?_replicate,if_pos hj];rcases Nat.mod_two_eq_zero_or_one j with h|h
  ·simp[h]
  ·simp[h]
 ·rw[Array.getElem?_eq_none (by rw[nS];omega),List.getElem?_eq_none (by rw[zC];simp;omega)]
theorem aDY (w:World):(sizeOf (Tryz.prog.elem 91)).run Tryz.prog w=.ok 2 w:=by
 have e:Tryz.prog.elem 91=186:=by kernel_rfl
 rw[e];obtain⟨i,hi,_,h1,_⟩:=dV aHE;simp[sizeOf,typeInfo,hi,h1]
theorem aBt:Tryz.prog.underlying 91=some (.slice (Tryz.prog.elem 91)):=by kernel_rfl
theorem aMC (g k N:Nat) (hk:k<=N):∃q,q<=k*2/\(k<N->q=k*2)/\∀w,(Instr.slice 91 (.slice (some ⟨g,0,none⟩) N N) (some (.int .i64 (k:Int))) none none).run Tryz.prog w=.ok (.slice (some ⟨g,q,none⟩) (N-k) (N-k)) w:=by
 refine⟨if N=k then 0 else k*2,by split<;>omega,fun h=>if_neg uAu,fun w=> ?_⟩;rw[run_slice_l w _ (some ⟨g,0,none⟩) N N aBt _ _ uAu uAu,aDY];simp only[cS,lC];by_cases h:N=k
 ·simp[h,sliced]
 ·simp[h,sliced,qQ]
theorem aIS (w:World) {S:Nat->Prop} (B:Nat) (ls:List (Value×List Pl)) (hcells:∀k (hk:k<ls.length),w.cell? ⟨B,k,none⟩=some ls[k].1) (hcut:∀p∈ls,bZ S w 2 p.1 (en nH p.2) p.2.length)
  (hn:(eZ ls ls.length).length<=4096) (hl:ls.length<=100):
  Calls Tryz.prog 178 #[.slice (some ⟨B,0,none⟩) ls.length ls.length] w fun e w'=>∃a n c,e=.returned (.slice a n c)/\dP (fun g=>w.heap.size<=g) w' 186 2 (.slice a n c) (en nH (eZ ls ls.length)) (eZ ls ls.length).length/\Below w.heap.size w w':=by
 obtain⟨i,hi,hz,h1,h2⟩:=dV aHE;have HS:=iH hcut;have HC:=iH hcells;clear hcut hcells;go_enter Tryz.func178,Tryz.ntmps178;go_wp2_with fail
 go_loopw [3,12] (fun n i wr=>∃k:Nat,k<=ls.length/\i=.int .i64 k/\n=.int .i64 ((eZ ls k).length:Nat)/\w=wr) (fun _ i _=>ls.length-(intOf i).toNat)
 case atStart=>exact⟨0,aQ _,rfl,rfl,rfl⟩
 case round=>
  obtain⟨k,hk,rfl,rfl,rfl⟩:=hrel;by_cases hlt:k<ls.length
  ·have hc:=HC.out k hlt
   obtain⟨a,cap,ha,_⟩:=HS.out _ (aO hlt);have hle:=tV (ls:=ls) (k+1) hlt (aE _);have hle':((eZ ls (k+1)).length:Int)<=4096:=by omega
   have hs:=oB hlt;have hsl:((eZ ls (k+1)).length:Int)=(eZ ls k).length+ls[k].2.length:=by rw[hs,aD];omega
   rw[hsl]at hle';have HSL:=iH hsl;rw[ha]at hc;clear hs hsl hle;go_wp2_with fail
   go_roundw
   case rel=>exact⟨k+1,by omega,by simp,by rw[HSL.out],trivial⟩
   case measure=>simp[intOf];omega
  ·obtain rfl:k=ls.length:=by omega
   by_cases h0:(eZ ls ls.length).length=0
   ·have h0':((eZ ls ls.length).length:Int)=0:=by omega
    go_wp2_with fail
    go_ret;exact⟨_,_,_,rfl,by rw[aT h0];exact⟨rfl,.inl ⟨rfl,rfl⟩⟩,aY _ _⟩
   ·have h0':(((eZ ls ls.length).length:Int)==0)=false:=bJ.2 uAu
    obtain⟨N,hN⟩:∃N,N=(eZ ls ls.length).length:=⟨_,rfl⟩
    have HN:=iH hN;have HM:=iH hn;have HP:=iH h0;rw[<-hN]at h0';rw[<-hN];have hN4:(N:Int)<=4096:=by omega
    clear hN hn h0;go_wp2_with (refine mH _ rfl _ _ 91 rfl 186 i (.agg #[.pointer none,.pointer none]) 2 Tryz.underlying91 hi hz h1 .i64 .i64 N rfl rfl (by rw[h2];have:=HM.out;have:=HN.out;omega) (by have:=HM.out;have:=HN.out;omega) ?_)
    go_loopw [7,27] (fun at_ i v=>∃k:Nat,k<=ls.length/\i=.int .i64 k/\at_=.int .i64 ((eZ ls k).length:Nat)/\Hid (v.heap[w.heap.size]? =some (.cells (aAK nH [.pointer none,.pointer none] (eZ ls k) N).toArray 186 (0,0)))/\Below w.heap.size w v) (fun _ i _=>ls.length-(intOf i).toNat)
    case atStart=>
     refine⟨0,aQ _,rfl,rfl,?_,Below.newly' _ _⟩;show _=_;have e:(aAK nH [.pointer none,.pointer none] (eZ ls 0) N).toArray=madeCells #[.pointer none,.pointer none] (N*2):=by
      rw[show eZ ls 0=[]from by simp[eZ],<-aMN]
     rw[e];exact aF _ _
    case round=>
     obtain⟨k,hk,rfl,rfl,hg,hb⟩:=hrel;have HB:=iH hb;clear hb;by_cases hlt:k<ls.length
     ·have hc:=(HB.out.cell (p:=⟨B,k,none⟩) (aM _ _ (HC.out k hlt))).trans (HC.out k hlt)
      have HCUT:=iH ((HS.out _ (aO hlt)).later HB.out);obtain⟨a,cap,ha,_⟩:=HCUT.out.shape;have hle:=tV (ls:=ls) (k+1) hlt (aE _);rw[<-HN.out]at hle;have hs:=oB hlt;have hsl:(eZ ls (k+1)).length=(eZ ls k).length+ls[k].2.length:=by rw[hs,aD]
      rw[hsl]at hle;have HSL:=iH hsl;have HLE:=iH hle;have HCS:=iH hs;have hle':((eZ ls k).length:Int)+ls[k].2.length<=N:=by omega
      rw[ha]at hc HCUT;clear hs hsl hle ha;obtain⟨q,hq1,hq2,hrun⟩:=aMC w.heap.size (eZ ls k).length N uAu;have HQ1:=iH hq1;have HQ2:=iH hq2;have HMID:=iH (aKU (z:=[.pointer none,.pointer none]) (xs:=eZ ls k) (n:=N) oW rfl uAu);clear hq1 hq2;go_wp2_with (refine aCp rfl _ _ 91 91 rfl 186 Tryz.underlying91 2 dJ w.heap.size q (N-(eZ ls k).length) (N-(eZ ls k).length) rfl _ rfl (en nH ls[k].2) ls[k].2.length HCUT.out uKy 186 _ hg.out (by have:=HLE.out;have:=HQ1.out;have:=HMID.out;simp;omega) (xR aFY _) ?_;intro w2 h2 k2;have HG2:=iH h2;have HK2:=iH k2;clear h2 k2)
      go_roundw
      case rel=>
       refine⟨k+1,by omega,by simp,by rw[HSL.out];simp,?_,HB.out.trans (HK2.out.below (aE _))⟩;show _=_;rw[HG2.out,HCS.out,<-aKV (s:=2) oW rfl HLE.out];simp only[vE];by_cases hkn:(eZ ls k).length<N
       ·rw[HQ2.out hkn]
       ·have hz:ls[k].2=[]:=aT uKy
        rw[hz,show en nH []=[]from rfl];simp
      case measure=>simp[intOf];omega
     ·obtain rfl:k=ls.length:=by omega
      go_wp2_with fail
      go_ret;have hN:=HN.out;have hm:aAK nH [.pointer none,.pointer none] (eZ ls ls.length) N=en nH (eZ ls ls.length):=by unfold aAK;rw[<-hN,aB0];simp
      refine⟨_,_,_,rfl,⟨oA oW _,.inr ⟨by have:=HP.out;omega,w.heap.size,N,_,(0,0),by rw[<-hN],by omega,aE _,hg.out,fun j u hu=> ?_⟩⟩,HB.out⟩;rw[hm];simpa using hu
end Go.Proofs.YtengibnpebfblaaGreatDoor
namespace Go.Proofs.YtengibnpebfblaaGreatDoor
open Go.RowKit
theorem aCZ (b:Nat) (hb:b<4294967296) (v:Value) (j:Nat) (hj:j<32) (w:World):
  Calls Tryz.prog 147 #[.agg #[.int .u32 (b:Int),v],.int .i64 (j:Int)] w fun e w'=>e=.returned (.tuple #[.int .i64 (rkN b j:Nat),.int .i64 (rkN b (j+1):Nat)])/\Below w.heap.size w w':=by
 have hB:=zW j hj;obtain⟨p,hp⟩:∃p,p=2^j:=⟨_,rfl⟩
 rw[<-hp]at hB;have hp1:0<p:=by rw[hp];exact mW j
 have hp2:p<4294967296:=by rw[hp];exact uC (show 1<2 by decide) hj
 obtain⟨m,hm⟩:∃m,m=p-1:=⟨_,rfl⟩
 have e1:(p:Int)-1=(m:Int):=by omega
 obtain⟨q,hq⟩:∃q,q=m|||p:=⟨_,rfl⟩
 have hm32:m<2^32:=by
  show m<4294967296;omega
 have hp32:p<2^32:=hp2;have e2:bits .or .u32 (m:Int) (p:Int)=(q:Int):=by rw[hq];exact(bits_nat .u32 32 uAv (fun n a c=>by rw[aJG];simp only[Int.reducePow]at c;omega) m p hm32 hp32).2
 obtain⟨x1,hx1⟩:∃x,x=b&&&m:=⟨_,rfl⟩
 obtain⟨x2,hx2⟩:∃x,x=b&&&q:=⟨_,rfl⟩
 have e3:bits .and .u32 (b:Int) (m:Int)=(x1:Int):=by rw[hx1];exact aEx b m hb
 have e4:bits .and .u32 (b:Int) (q:Int)=(x2:Int):=by rw[hx2];exact aEx b q hb
 have l1:x1<4294967296:=by rw[hx1];exact jD Nat.and_le_left hb
 have l2:x2<4294967296:=by rw[hx2];exact jD Nat.and_le_left hb
 have hq2:q=2^(j+1)-1:=by
  have:=vX (i:=j) (b:=m) uAu 1;rw[nT,<-hp,Nat.or_comm,<-hq]at this;rw[<-this,aB1,<-hp];omega
 have r1:rkN x1 32=rkN b j:=by rw[hx1,hm,hp];exact aKo b j uAu
 have r2:rkN x2 32=rkN b (j+1):=by rw[hx2,hq2];exact aKo b (j+1) uAu
 have c1:=aF4 x1 l1;have c2:=aF4 x2 l2;rw[r1]at c1;rw[r2]at c2;have C1:=iH c1;have C2:=iH c2;have HB:=iH hB;clear c1 c2 hB hq2 hp hm hq hx1 hx2 r1 r2 hm32 hp32;go_enter Tryz.func147,Tryz.ntmps147;go_upto_region 2 with(go_at_call 146;refine(HB.out _).mono ?_;rintro e w1 ⟨rfl,rfl⟩)
 go_quiet (first|(go_at_call 146;exact lW (HB.out _))|(go_at_call_of 167 (Value.int IntKind.u32 (x1:Int));exact Calls.quiet_of (C1.out _))|(go_at_call_of 167 (Value.int IntKind.u32 (x2:Int));exact Calls.quiet_of (C2.out _)))
 go_wp2
 go_ret2;exact⟨rfl,Below.drewMany (Below.newly' _ _) _⟩
def AtR (S:Nat->Prop) (W:World) (R:Rg Pl) (c:Array Value):Prop:=∃v,c=#[.int .u32 (eS R 32:Nat),v]/\dP S W 186 2 v (en nH (nG R)) (fQ R 32)
theorem AtR.later {S:Nat->Prop} {W W':World} {R:Rg Pl} {c:Array Value} (h:AtR S W R c) (hb:Below W.heap.size W W'):AtR S W' R c:=by
 obtain⟨v,h1,h2⟩:=h;exact⟨v,h1,h2.later hb⟩
theorem aCa:∀k,eS (noG:Rg Pl) k=0
 |0=>rfl
 |k+1=>by unfold eS;rw[aCa k];rfl
theorem zG:∀k,fQ (noG:Rg Pl) k=0
 |0=>rfl
 |k+1=>by unfold fQ;rw[zG k];rfl
theorem aHJ:nG (noG:Rg Pl)=[]:=aT (by rw[nF,zG])
theorem AtR.zero (S:Nat->Prop) (W:World):AtR S W noG #[.int .u32 0,.slice none 0 0]:=
 ⟨_,by rw[aCa];rfl,by rw[aHJ,zG];exact⟨rfl,.inl ⟨rfl,rfl⟩⟩⟩
theorem AtR.shape {S:Nat->Prop} {W:World} {R:Rg Pl} {c:Array Value} (h:AtR S W R c):∃a n,c=#[.int .u32 (eS R 32:Nat),.slice a (fQ R 32) n]:=by
 obtain⟨v,rfl,h2⟩:=h;obtain⟨a,n,rfl,_⟩:=h2.shape;exact⟨a,n,rfl⟩
theorem aAy (R:Rg Pl) {j:Nat} (hj:j<32) (h:(R j).isSome=true):bits .and .u32 (eS R 32:Nat) ((2^j:Nat):Int)=((2^j:Nat):Int):=
 aAO .and _ _ _ (uC (show 1<2 by decide) hj) fun k hk=>by
  exact Ag6
theorem aEw (R:Rg Pl) {j:Nat} (h:(R j).isSome=false):bits .and .u32 (eS R 32:Nat) ((2^j:Nat):Int)=((0:Nat):Int):=
 aAO .and _ _ _ uAv fun k hk=>by
  exact Ag6
theorem aFk {S:Nat->Prop} {W:World} {v:Value} {xs:List Pl} {n:Nat} (h:dP S W 186 2 v (en nH xs) n) {j:Nat} {x:Pl} (hx:xs[j]? =some x):
  ∃g c,v=.slice (some ⟨g,0,none⟩) n c/\n<=c/\S g/\g<W.heap.size/\j<n/\W.rangeAt g (j*2) (nH x):=by
 have hl:=h.1;rw[oA oW]at hl;have hj:=(List.getElem?_eq_some_iff.1 hx).1;obtain⟨g,c,cur,fr,h1,h2,h3,h4,h5⟩:=h.pos uAu;refine⟨g,c,h1,h2,h3,(gZ h4),by omega,fun k u hu=> ?_⟩;have hk:k<2:=(List.getElem?_eq_some_iff.1 hu).1;exact aK h4 (h5 (j*2+k) u (by rw[aBZ oW xs j k x hx hk];exact hu))
theorem aKB {S:Nat->Prop} (W:World) (R:Rg Pl) (c:Array Value) (h:AtR S W R c):Calls Tryz.prog 191 #[.agg c] W fun e W'=>e=.returned (.int .i64 (fQ R 32:Nat))/\Below W.heap.size W W':=by
 obtain⟨a,n,rfl⟩:=h.shape;clear h;go_enter Tryz.func191,Tryz.ntmps191;go_wp2_with fail
 go_ret;exact⟨rfl,Below.newly' _ _⟩
theorem kF {w w':World} {p q:Array Value} {T U:TypeId} (e:(w.alloc (.cells p T)).alloc (.cells q U)=w'):Below w.heap.size w w'/\w'.heap[w.heap.size]? =some (.cells p T (0,0))/\w'.heap[w.heap.size+1]? =some (.cells q U (0,0))/\w'.heap.size=w.heap.size+2:=by
 subst e;refine⟨Below.more (Below.newly' _ _) _,((Below.newly' _ _).block _ uBu).trans (aF _ _),?_,by simp⟩;have h:=aF (w.alloc (.cells p T)) (.cells q U);simpa using h
theorem aKC {S:Nat->Prop} (W:World) (R:Rg Pl) (c:Array Value) (j:Nat) (hj:j<32) (h:AtR S W R c):Calls Tryz.prog 131 #[.agg c,.int .i64 (j:Int)] W fun e W'=>e=.returned (.tuple #[.agg (plc ((R j).getD (none,none))),.bool (R j).isSome])/\Below W.heap.size W W':=by
  have HB:=iH (zW j hj);obtain⟨v,rfl,h2⟩:=h;obtain⟨p,hp⟩:∃p,p=2^j:=⟨_,rfl⟩
  obtain⟨w1,hw1⟩:∃w1,(W.alloc (.cells #[.int .u32 (eS R 32:Nat),v] 93)).alloc (.cells #[.pointer none,.pointer none] 186)=w1:=⟨_,rfl⟩
  obtain⟨hb1,hx1,hy1,hs1⟩:=kF hw1;have ca0:w1.cell? ⟨W.heap.size,0,none⟩=some (.int .u32 (eS R 32:Nat)):=aK hx1 rfl;have HX1:=iH hx1;have HY1:=iH hy1;have HB1:=iH hb1;have HS1:=iH hs1;have hu:=Tryz.underlying93;cases hr:R j with
  |none=>
   have hz:=aEw R (j:=j) (by rw[hr];rfl);rw[<-hp]at HB hz;obtain⟨a,n,rfl,_⟩:=h2.shape;clear h2 hp hx1 hy1 hb1 hs1;go_enter Tryz.func131,Tryz.ntmps131;go_upto_region 1 with fail
   clear hw1;go_quiet (first|(go_at_call 146;exact lW (HB.out _)))
   obtain⟨w2,hw2⟩:∃w2,w2=w1.drewN nq:=⟨_,rfl⟩
   have HX2:Hid (w2.heap[W.heap.size+1]? =some (.cells #[.pointer none,.pointer none] 186 (0,0))):=by show _=_;rw[hw2];exact HY1.out
   have HB2:Hid (Below W.heap.size W w2):=by show Below _ _ _;rw[hw2];exact Below.drewMany HB1.out _
   have HS2:Hid (w2.heap.size=W.heap.size+2):=by show _=_;rw[hw2];exact HS1.out
   rw[<-hw2];clear hw2;go_wp2_with (first
     |(refine bR uAz 186 _ rfl w2.heap.size rfl 186 _ _ _ (aF w2 _) Tryz.underlying186 rfl dJ ?_)
     |(refine bV rfl 186 _ _ rfl (W.heap.size+1) #[.pointer none,.pointer none] rfl rfl 186 #[.pointer none,.pointer none] (((Below.newly' w2 _).block _ uBw).trans HX2.out) dJ rfl (gM (none,none)) ?_;intro w3 h3 k3))
   exact bF (bU rfl _ _ (W.heap.size+1) 186 _ (0,0) _ rfl h3 Tryz.underlying186 rfl dJ) rfl ⟨rfl,(HB2.out.trans ((Below.newly' w2 _).mono HB2.out.size)).trans (k3.below uAu)⟩
  |some x=>
   have hz:=aAy R hj (by rw[hr];rfl);rw[<-hp]at HB hz
   have hpn:((p:Int)==0)=false:=bJ.2 uPw
   have HA:=iH (fun w=>aCZ (eS R 32) (aL1 R) v j hj w);rw[yL R j uAu,yL R (j+1) uAu]at HA;obtain⟨g,cp,rfl,hcp,hS,hg,hlt,hrg⟩:=aFk h2 (aHK R hj hr);have HRG:=iH hrg;have HG:=iH hg;have hlt':((fQ R j:Nat):Int)<(fQ R 32:Nat):=by omega
   have ca1:w1.cell? ⟨W.heap.size,1,none⟩=some (.slice (some ⟨g,0,none⟩) (fQ R 32) cp):=aK hx1 rfl;clear h2 hp hx1 hy1 hb1 hs1 hrg hg hcp hS;go_enter Tryz.func131,Tryz.ntmps131;go_upto_region 1 with fail
   clear hw1;go_quiet (first|(go_at_call 146;exact lW (HB.out _)))
   obtain⟨w2,hw2⟩:∃w2,w2=w1.drewN nq:=⟨_,rfl⟩
   have HX2:Hid (w2.heap[W.heap.size]? =some (.cells #[.int .u32 (eS R 32:Nat),.slice (some ⟨g,0,none⟩) (fQ R 32) cp] 93 (0,0))):=by show _=_;rw[hw2];exact HX1.out
   have HY2:Hid (w2.heap[W.heap.size+1]? =some (.cells #[.pointer none,.pointer none] 186 (0,0))):=by show _=_;rw[hw2];exact HY1.out
   have HB2:Hid (Below W.heap.size W w2):=by show Below _ _ _;rw[hw2];exact Below.drewMany HB1.out _
   have HS2:Hid (w2.heap.size=W.heap.size+2):=by show _=_;rw[hw2];exact HS1.out
   rw[<-hw2];clear hw2 ca0 ca1;go_wp2_with (first
     |(refine bR uAz 93 _ rfl W.heap.size rfl 93 _ _ _ HX2.out Tryz.underlying93 rfl iP ?_)
     |(go_at_call 147;refine(HA.out _).mono ?_;rintro e w3 ⟨rfl,hb⟩;have hx3:=(hb.block _ uBw).trans HX2.out;have ca3:w3.cell? ⟨W.heap.size,1,none⟩=some (.slice (some ⟨g,0,none⟩) (fQ R 32) cp):=aK hx3 rfl;have HY3:=iH ((hb.block _ uBw).trans HY2.out);have HB3:=iH (tW HB2.out hb);clear hb hx3)
     |(refine dA rfl 186 _ rfl g (fQ R j*2) rfl (nH x) _ (dB HRG.out HB3.out) Tryz.underlying186 rfl dJ ?_)
     |(refine bV rfl 186 _ _ rfl (W.heap.size+1) (plc x) rfl rfl 186 _ HY3.out dJ rfl (gM x) ?_;intro w4 h4 k4))
   exact bF (bU rfl _ _ (W.heap.size+1) 186 _ (0,0) _ rfl h4 Tryz.underlying186 rfl dJ) rfl ⟨rfl,HB3.out.trans (k4.below uAu)⟩
theorem dP.all {S:Nat->Prop} {W:World} {T:TypeId} {s n:Nat} {v:Value} {cs:List Value} (h:dP S W T s v cs n):dP (fun _=>True) W T s v cs n:=h.weak fun _ _=>trivial
theorem xG {w w':World} {p q r:Array Value} {T U V:TypeId} (e:((w.alloc (.cells p T)).alloc (.cells q U)).alloc (.cells r V)=w'):
  Below w.heap.size w w'/\w'.heap[w.heap.size]? =some (.cells p T (0,0))/\w'.heap[w.heap.size+1]? =some (.cells q U (0,0))/\w'.heap[w.heap.size+2]? =some (.cells r V (0,0))/\w'.heap.size=w.heap.size+3:=by
 obtain⟨w1,hw1⟩:∃w1,(w.alloc (.cells p T)).alloc (.cells q U)=w1:=⟨_,rfl⟩
 obtain⟨h1,h2,h3,h4⟩:=kF hw1;rw[hw1]at e;subst e;have h:=aF w1 (.cells r V);rw[h4]at h;exact⟨Below.more h1 _,((Below.newly' _ _).block _ uAu).trans h2,((Below.newly' _ _).block _ uAu).trans h3,h,by simp;omega⟩
theorem aMD {S:Nat->Prop} {W:World} {v:Value} {xs:List Pl} {n:Nat} (h:dP S W 186 2 v (en nH xs) n) (lo hi:Nat) (hlo:lo<=n) (hhi:hi<=n):
  ∃a1 c1 a3 c3,bZ S W 2 (.slice a1 lo c1) (en nH (xs.take lo)) lo/\bZ S W 2 (.slice a3 (n-hi) c3) (en nH (xs.drop hi)) (n-hi)/\
  (∀w,(Instr.slice 91 v none (some (.int .i64 (lo:Int))) none).run Tryz.prog w=.ok (.slice a1 lo c1) w)/\(∀w,(Instr.slice 91 v (some (.int .i64 (hi:Int))) none none).run Tryz.prog w=.ok (.slice a3 (n-hi) c3) w):=by
 obtain⟨a1,c1,h1,h2⟩:=aC3 (P:=Tryz.prog) 91 aBt aDY h.cut hlo;obtain⟨a3,c3,h3,h4⟩:=uW (P:=Tryz.prog) 91 aBt aDY h.cut hhi;rw[zF oW]at h1;rw[tS oW]at h3;exact⟨a1,c1,a3,c3,h1,h3,h2,h4⟩
theorem aNO {W:World} {g:Nat} {x:Pl} (h:W.heap[g]? =some (.cells (plc x) 186 (0,0))):bZ (fun _=>True) W 2 (.slice (some ⟨g,0,none⟩) 1 1) (en nH [x]) 1:=
 ⟨_,1,rfl,aE _,rfl,.inr ⟨g,0,rfl,trivial,(gZ h),fun j u hu=>by
  rw[dL];refine aK h ?_;simpa[en,nH,plc]using hu⟩⟩
theorem aNM {S:Nat->Prop} (W:World) (R:Rg Pl) (c:Array Value) (j:Nat) (hj:j<32) (x:Pl) (h:AtR S W R c):
    Calls Tryz.prog 150 #[.agg c,.int .i64 (j:Int),.agg (plc x)] W fun e W'=>∃c',e=.returned (.agg c')/\AtR (fun g=>W.heap.size<=g) W' (aF5 R j x) c'/\Below W.heap.size W W':=by
  have HB:=iH (zW j hj);obtain⟨v,rfl,h2⟩:=h;have hz:=aIH R x j;have hm:=aAy R hj;obtain⟨b',hb'⟩:∃b',b'=eS (aF5 R j x) 32:=⟨_,rfl⟩
  rw[<-hb']at hz;obtain⟨p,hp⟩:∃p,p=2^j:=⟨_,rfl⟩
  rw[<-hp]at HB hz hm
  have hpn:((p:Int)==0)=false:=bJ.2 uPw
  have HA:=iH (fun w=>aCZ (eS R 32) (aL1 R) v j hj w);rw[yL R j uAu,yL R (j+1) uAu]at HA;have HS:=iH (aL2 R x hj);have hc1:=aA9 R (show j<=j+1 by omega);have hc2:=aA9 R (show j+1<=32 by omega);have HC3:=iH (zH R 32);have HLL:=iH (nF R);obtain⟨a1,c1,a3,c3,hs1,hs3,hr1,hr3⟩:=aMD h2 (fQ R j) (fQ R (j+1)) uAu hc2;have HS1:=iH hs1;have HS3:=iH hs3;have HJ:=iH (And.intro hc1 hc2);have HP:=iH hp;have HB':=iH hb';obtain⟨w1,hw1⟩:∃w1,((W.alloc (.cells #[.int .u32 (eS R 32:Nat),v] 93)).alloc (.cells (plc x) 186)).alloc (.cells #[.int .u32 0,.slice none 0 0] 93)=w1:=⟨_,rfl⟩
  obtain⟨hb1,hx1,hy1,hz1',hs1'⟩:=xG hw1;have HX1:=iH hx1;have HZ1:=iH hz1';have HB1:=iH hb1;have HSZ:=iH hs1';have HY1:=iH hy1;have ca0:w1.cell? ⟨W.heap.size,0,none⟩=some (.int .u32 (eS R 32:Nat)):=aK hx1 rfl;clear h2 hs1 hs3 hc1 hc2 hp hb' hb1 hx1 hz1' hs1' hm hy1;go_enter Tryz.func150,Tryz.ntmps150;go_upto_region 1 with fail
  clear hw1;obtain⟨w2,hw2⟩:∃w2,w2=w1:=⟨_,rfl⟩
  have HX2:Hid (w2.heap[W.heap.size]? =some (.cells #[.int .u32 (eS R 32:Nat),v] 93 (0,0))):=by show _=_;rw[hw2];exact HX1.out
  have HY2:Hid (w2.heap[W.heap.size+1]? =some (.cells (plc x) 186 (0,0))):=by show _=_;rw[hw2];exact HY1.out
  have HZ2:Hid (w2.heap[W.heap.size+2]? =some (.cells #[.int .u32 0,.slice none 0 0] 93 (0,0))):=by show _=_;rw[hw2];exact HZ1.out
  have HB2:Hid (Below W.heap.size W w2):=by show Below _ _ _;rw[hw2];exact HB1.out
  have HS2:Hid (W.heap.size+3<=w2.heap.size):=by show _<=_;rw[hw2];exact jZ HSZ.out.symm
  rw[<-hw2];clear hw2 ca0;go_upto_region 4 with(first
    |(go_at_call 146;refine(HB.out _).mono ?_;rintro e w1' ⟨rfl,hw⟩;obtain rfl:=hw.symm)
    |(refine bR uAz 93 _ rfl W.heap.size rfl 93 _ _ _ HX2.out Tryz.underlying93 rfl iP ?_)
    |(go_at_call 147;refine(HA.out _).mono ?_;rintro e w3 ⟨rfl,hb⟩;have HB3:=iH hb;clear hb))
  have HKS:Hid (∀V,Below w2.heap.size w2 V->(V.cell? ⟨W.heap.size,0,none⟩=some (.int .u32 (eS R 32:Nat))/\V.cell? ⟨W.heap.size,1,none⟩=some v/\V.heap[W.heap.size+1]? =some (.cells (plc x) 186 (0,0)))):=fun V hV=>by
    have hx:=(hV.block _ uBw).trans HX2.out;exact⟨aK hx rfl,aK hx rfl,(hV.block _ uBw).trans HY2.out⟩
  have HW:Hid (Below w2.heap.size w2 w3.drew):=HB3.out.trans ((bE w3).mono HB3.out.size);clear HB3;refine bL (S:=(fun V=>V.cell? ⟨W.heap.size,0,none⟩=some (.int .u32 (eS R 32:Nat))/\V.cell? ⟨W.heap.size,1,none⟩=some v/\V.heap[W.heap.size+1]? =some (.cells (plc x) 186 (0,0)))) [18] hO uAw (fun hHeld=> ?_);refine tkA 0 19 (h:=?_);refine tkA 1 20 (h:=?_);(try simp only[pq]);refine tkA 2 21 (h:=?_);(try simp only[pq]);refine pM (i:=3) (oi:=⟨some 22,_,_,_,_,_⟩) (v:=.int .u32 (p:Int)) rfl hO hO hO hO (fun _ _ _ h=>h) ⟨by rfl,fun w hSw=>⟨146,#[.int .i64 (j:Int)],?hg1_3,HB.out w⟩⟩ uAx ?rg1_3
  case hg1_3=>go_simp
  (try simp only[pq]);refine tkA 4 23 (h:=?_);refine tkA 5 24 (h:=?_);(try simp only[pq]);refine tkA 6 25 (h:=?_);refine tkA 7 26 (h:=?_);(try simp only[pq]);refine tkA 8 27 (h:=?_);refine tyA 9 28 (hy:=aP uAz 186 _ rfl (W.heap.size+1) rfl (plc x) 186 (0,0) _ (fun w hw=>hw.2.2) Tryz.underlying186 rfl (by exact dJ)) (h:=?_);(try simp only[pq]);refine tkA 11 30 (h:=?_);refine tkA 12 31 (h:=?_);(try simp only[pq]);refine tkA 13 32 (h:=?_);refine tkA 14 33 (h:=?_);(try simp only[pq]);refine tkO 10 (some 29) (h:=fun K hK=> ?_);rw[if_pos uAz];refine sR 91 186 _ rfl (plc x) 2 (.agg #[.pointer none,.pointer none]) rfl rfl uAv uAv Tryz.underlying91 hO ?_;intro w4 h4 hb hs4;have HG4:=iH h4;have HS4:=iH hs4;replace HW:=iH (tW HW.out hb);clear h4 hb hs4;refine hK.out _ _ uAw (fun hHeld=> ?_);clear hK K;(try simp only[pq]);refine tkO 15 (some 34) (h:=fun K hK=> ?_);go_simp;have hb:=Below.newly' w4 (.cells #[.slice a1 (fQ R j) c1,.slice (some ⟨w3.drew.heap.size,0,none⟩) 1 1,.slice a3 (fQ R 32-fQ R (j+1)) c3] 91);have HQ:=iH (aF w4 (.cells #[.slice a1 (fQ R j) c1,.slice (some ⟨w3.drew.heap.size,0,none⟩) 1 1,.slice a3 (fQ R 32-fQ R (j+1)) c3] 91));replace HW:=iH (tW HW.out hb);clear hb;refine hK.out _ _ uAw (fun hHeld=> ?_);clear hK K;(try simp only[pq]);refine tkO 16 (some 35) (h:=fun K hK=> ?_);go_simp;go_at_call 178;refine(aIS _ _ [(.slice a1 (fQ R j) c1,(nG R).take (fQ R j)),(.slice (some ⟨w3.drew.heap.size,0,none⟩) 1 1,[x]),(.slice a3 (fQ R 32-fQ R (j+1)) c3,(nG R).drop (fQ R (j+1)))] (fun k hk=>by
    match k,hk with
    |0,_=>exact aK HQ.out rfl
    |1,_=>exact aK HQ.out rfl
    |2,_=>exact aK HQ.out rfl) (fun q hq=>by
    have hj1:=HJ.out;have hll:=HLL.out;simp only[bA,gX,wV]at hq;rcases hq with rfl|rfl|rfl
    ·simp only
     rw[aV,gA uAu];exact(HS1.out.later (tW HB2.out HW.out)).weak fun _ _=>trivial
    ·exact aNO (((Below.newly' _ _).block _ (gZ HG4.out)).trans HG4.out)
    ·simp only
     rw[bS,hll];exact(HS3.out.later (tW HB2.out HW.out)).weak fun _ _=>trivial) (by
    have hj1:=HJ.out;have hll:=HLL.out;have h32:=HC3.out;simp[eZ];omega) uBu).mono ?_
  rintro e w5 ⟨a5,n5,c5,rfl,hl5,hb⟩;have HL5:=iH hl5;have HB5:=iH hb;have HWS:=iH HW.out.size;have HZ5:=iH ((hb.block _ (cQ uBw HWS.out)).trans ((HW.out.block _ uBw).trans HZ2.out));replace HW:=iH (tW HW.out hb);clear hl5 hb;dsimp only;refine hK.out _ _ uAw (fun hHeld=> ?_);clear hK K;(try simp only[pq]);refine tkA 17 36 (h:=?_);(try simp only[pq]);refine tkU 18 none (h:=fun K hK=> ?_);refine kH 93 _ _ rfl (W.heap.size+2) #[.int .u32 (b':Int),.slice a5 n5 c5] rfl rfl 93 #[.int .u32 0,.slice none 0 0] HZ5.out iP rfl uAy ?_;intro w6 h6 k6;refine hK.out _ _ ?_;clear hK K;(try simp only[pq]);refine bK hO ?_ _;go_wp2_with fail
  refine bF (cE rfl _ _ (W.heap.size+2) 93 _ (0,0) _ rfl h6 Tryz.underlying93 rfl iP) rfl ⟨_,rfl,⟨_,by rw[HB'.out],?_⟩,(tW HB2.out HW.out).trans (k6.below uAu)⟩;have hl:=HL5.out;simp only[eZ,aL,bG,fP,eB,cN,List.flatMap_nil,mX]at hl;rw[<-HS.out,nF]at hl;refine dP.weak (dP.kept hl k6.by_ (fun X e h=> ?_)) (fun g hg=> ?_)
  ·cases e
   exact absurd h (Nat.not_le.2 (cQ uBw HWS.out))
  ·exact aG (aG HB2.out.size HWS.out) hg
end Go.Proofs.YtengibnpebfblaaGreatDoor
