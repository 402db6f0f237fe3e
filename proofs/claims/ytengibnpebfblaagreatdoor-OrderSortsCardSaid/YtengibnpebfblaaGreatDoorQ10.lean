import Derived.Test.YtengibnpebfblaaGreatDoorQ0
import Derived.Test.YtengibnpebfblaaGreatDoorQ9
set_option maxRecDepth 1000000
set_option maxHeartbeats 8000000
set_option linter.unusedSimpArgs false
namespace Go.Proofs.YtengibnpebfblaaGreatDoor
open Go.RowKit
def InR (n:Int):Prop:= -9223372036854775808<=n/\n<=9223372036854775807
instance(n:Int):Decidable (InR n):=inferInstanceAs (Decidable (_/\_))
theorem Below.chain {w w1 w2:World} (h1:Below w.heap.size w w1) (h2:Below w1.heap.size w1 w2):Below w.heap.size w w2:=h1.trans (h2.mono h1.size)
theorem Below.drawn (w:World):Below w.heap.size w w.drew:=⟨rfl,rfl,rfl,aE _,fun _ _=>rfl⟩
theorem Below.laid (w:World) (o:Obj):Below w.heap.size w (w.alloc o):=(aY _ _).alloc (aE _) o
def bt8 (v:Int):UInt8:=UInt8.ofNat (v % 256).toNat
theorem kV (v:Int):((bt8 v).toNat:Int)=v % 256:=by
 unfold bt8;have h0:=Int.emod_nonneg v (show(256:Int)≠0 by decide);have h1:=Int.emod_lt_of_pos v (show(0:Int)<256 by decide);rw[UInt8.toNat_ofNat_of_lt' (by simp only[UInt8.size];omega)];omega
theorem mk8 (w:World):(Instr.makeSlice 129 (.int .i64 8) (.int .i64 8)).run Tryz.prog w=.ok (.slice (some ⟨w.heap.size,0,none⟩) 8 8) (w.alloc (.cells #[.int .u8 0,.int .u8 0,.int .u8 0,.int .u8 0,.int .u8 0,.int .u8 0,.int .u8 0,.int .u8 0] 5)):=by kernel_rfl
theorem cv8 (w:World) (v0 v1 v2 v3 v4 v5 v6 v7:Int):(convert 129 9 (.slice (some ⟨w.heap.size,0,none⟩) 8 8)).run Tryz.prog (w.alloc (.cells #[.int .u8 (v0 % 256),.int .u8 (v1 % 256),.int .u8 (v2 % 256),.int .u8 (v3 % 256),.int .u8 (v4 % 256),.int .u8 (v5 % 256),.int .u8 (v6 % 256),.int .u8 (v7 % 256)] 5))=
  .ok (.string ⟨#[bt8 v0,bt8 v1,bt8 v2,bt8 v3,bt8 v4,bt8 v5,bt8 v6,bt8 v7]⟩) (w.alloc (.cells #[.int .u8 (v0 % 256),.int .u8 (v1 % 256),.int .u8 (v2 % 256),.int .u8 (v3 % 256),.int .u8 (v4 % 256),.int .u8 (v5 % 256),.int .u8 (v6 % 256),.int .u8 (v7 % 256)] 5)):=by
 refine rG (P:=Tryz.prog) (w.alloc _) 129 9 5 ⟨w.heap.size,0,none⟩ 8 [bt8 v0,bt8 v1,bt8 v2,bt8 v3,bt8 v4,bt8 v5,bt8 v6,bt8 v7] Tryz.underlying129 Tryz.underlying5 Tryz.underlying9 ?_;intro j hj;have hj':j<8:=hj
 match j,hj' with
 |0,_=>simp[kV,Addr.add]
 |1,_=>simp[kV,Addr.add]
 |2,_=>simp[kV,Addr.add]
 |3,_=>simp[kV,Addr.add]
 |4,_=>simp[kV,Addr.add]
 |5,_=>simp[kV,Addr.add]
 |6,_=>simp[kV,Addr.add]
 |7,_=>simp[kV,Addr.add]
def lN (n:Int):List UInt8:=[bt8 ((n+9223372036854775808)/72057594037927936),bt8 ((n+9223372036854775808)/281474976710656),bt8 ((n+9223372036854775808)/1099511627776),bt8 ((n+9223372036854775808)/4294967296),bt8 ((n+9223372036854775808)/16777216),bt8 ((n+9223372036854775808)/65536),bt8 ((n+9223372036854775808)/256),bt8 (n+9223372036854775808)]
theorem aEM (n:Int) (h:InR n):IntKind.u64.wrap (IntKind.u64.wrap n+9223372036854775808)=n+9223372036854775808:=by
 rw[iB,iB];unfold InR at h;omega
theorem aIZ (n:Int) (w:World) (hn:InR n):Calls Tryz.prog 121 #[.int .i64 n] w fun e w'=>e=.returned (.string ⟨(lN n).toArray⟩)/\Below w.heap.size w w':=by
 have hmk:=mk8;have hcv:=cv8;have hw:=aJ (aEM n hn);have hb:Hid (∀o,Below w.heap.size w (w.alloc o)):=fun o=>(aY _ _).alloc (aE _) o
 go_enter Tryz.func121,Tryz.ntmps121;exact Ai0
def valS (l:List UInt8):Int:=l.foldl (fun n c=>n*256+(c.toNat:Int)) 0
def yG (l:List UInt8):Int×Int:=if l.length=8 then(valS l-9223372036854775808,0)else(0,2)
def wS:List UInt8->Int
 |[]=>0
 |c::r=>(c.toNat:Int)*256^r.length+wS r
theorem aMZ (l:List UInt8):∀n:Int,l.foldl (fun n c=>n*256+(c.toNat:Int)) n=n*256^l.length+wS l:=by
 induction l with
 |nil=>intro n;simp[wS]
 |cons c r ih=>
  intro n;simp only[gN,wS,aL,Int.pow_succ];rw[ih,Int.add_mul,Int.mul_assoc,Int.mul_comm 256];omega
theorem aM3 (l:List UInt8):valS l=wS l:=by unfold valS;rw[aMZ];simp
theorem qN (n:Int):(lN n).length=8:=rfl
theorem aJw (n:Int) (h:InR n):wS (lN n)=n+9223372036854775808:=by
 unfold InR at h;simp only[wS,lN,kV,aL,bG,Nat.reduceAdd,Int.reducePow];omega
theorem aCx (n:Int) (h:InR n):yG (lN n)=(n,0):=by
 unfold yG;rw[if_pos (qN n),aM3,aJw n h];congr 1;omega
theorem aIQ (n:Int) (w:World) (hn:InR n):Calls Tryz.prog 98 #[.int .i64 n] w fun e w'=>e=.returned (.string ⟨(lN n).toArray⟩)/\Below w.heap.size w w':=by
 have hmk:=mk8;have hcv:=cv8;have hw:=aJ (aEM n hn);have hb:Hid (∀o,Below w.heap.size w (w.alloc o)):=fun o=>(aY _ _).alloc (aE _) o
 go_enter Tryz.func98,Tryz.ntmps98;exact Ai0
open Go.Shelf
theorem eL:(Tryz.prog.info? 88).map (·.size)=some 4:=by kernel_rfl
theorem aDR {S:Nat->Prop} {c:Array Value} {l:List Cel} (w:World) (h:dS S w c l):Calls Tryz.prog 82 #[.agg c] w fun e w'=>e=.returned (.int .i64 (l.length:Int))/\w'=w.alloc (.cells c 88):=by
 obtain⟨d,q1,n1,c1,q2,n2,c2,rfl,_⟩:=h.cells;clear h;go_enter Tryz.func82,Tryz.ntmps82;go_wp2
 go_ret;exact⟨rfl,rfl⟩
theorem sK {W:World} {T:TypeId} {h g:Nat} {ks:List Kid} {cur:Array Value} {fr:Nat×Nat} (hg:W.heap[g]? =some (.cells cur T fr)) (hc:∀(j:Nat) (u:Value),(en (iC h) ks)[j]? =some u->cur[j]? =some u) {j:Nat} (hj:j<ks.length):
  W.rangeAt g (j*4) (iC h ks[j]):=by
 intro i v hv;have hi:i<4:=by have:=(List.getElem?_eq_some_iff.1 hv).1;exact this
 refine aK hg (hc _ v ?_);rw[aBZ (uS h) ks j i ks[j] (List.getElem?_eq_getElem hj) hi];exact hv
theorem oL {ks:List Kid} {j:Nat} (hj:j<ks.length):(eV (ks.take (j+1))).length=(eV (ks.take j)).length+ks[j].l.length:=by
 rw[aS hj,kT,zK,aD]
theorem uY {ks:List Kid}:∀j,(eV (ks.take j)).length<=(eV ks).length:=fun j=>by
 have e:=jB j ks;have:=bH (fun x=>(eV x).length) e;rw[kT,aD]at this;omega
theorem aFC {α:Type} {ys:List α}:∀{L:List (List α)},ys∈L->∀y∈ys,y∈L.flatten:=fun h _ hy=>List.mem_flatten.2 ⟨_,h,hy⟩
theorem aC8:∀(L:List (List Kid)) {ys:List Kid},ys∈L->(eV ys).length<=(eV L.flatten).length
 |[],_,h=>by cases h
 |x::L,ys,h=>by
  rw[rL,kT,aD];rcases bA.1 h with rfl|h
  ·omega
  ·have:=aC8 L h
   omega
theorem aCR (w:World) {S:Nat->Prop} (h:Nat) (B:Nat) (ls:List (Value×List Kid)) (hcells:∀k (hk:k<ls.length),w.cell? ⟨B,k,none⟩=some ls[k].1) (hcut:∀p∈ls,bZ S w 4 p.1 (en (iC h) p.2) p.2.length)
  (xs:List Kid) (hxs:eZ ls ls.length=xs) (hx:∀q∈xs,8<=q.k/\fD S w h q) (hN:(eV xs).length<=100000) (hl:ls.length<=1000):
  Calls Tryz.prog 109 #[.slice (some ⟨B,0,none⟩) ls.length ls.length] w fun e w'=>∃v,e=.returned v/\∃ks,jH (fun g=>S g\/w.heap.size<=g) w' (h+1) v ks/\eV ks=eV xs/\Fit xs.length ks/\Below w.heap.size w w':=by
 have hN1:xs.length<=100000:=by
  have:=sP (c:=1) xs fun q hq=>(hx q hq).2.len0
  omega
 have HSP:=iH (aMr (uS h) (yW h) w B ls hcells hcut xs hxs hN1 hl);have HN:=iH hN;have HN1:=iH hN1;have HX:Hid (∀q∈xs,8<=q.k/\fD (fun g=>S g/\g<w.heap.size) w h q):=fun q hq=>⟨(hx q hq).1,(hx q hq).2.old⟩
 obtain⟨H,hH⟩:∃H,H=h+1:=⟨_,rfl⟩
 have HHH:=iH hH;clear hcells hcut hxs hN hN1 hx hH;go_enter Tryz.func109,Tryz.ntmps109;go_wp2_with (go_at_call 126;refine HSP.out.mono ?_;rintro e w1 ⟨v1,rfl,pl,⟨a1,g1,cap1,rfl,ha1,hc1,hh1⟩,hpl,hb1⟩;have HA1:=iH ha1;have HC1:=iH hc1;have HH1:=iH hh1;have HPL:=iH hpl;have HB1:=iH hb1;clear ha1 hc1 hh1 hpl hb1)
 clear HSP;have hpl5:(pl.length:Int)<=100000:=by have:=aD2 HPL.out;have:=HN1.out;unfold kI at*;omega
 go_loopw [3,12] (fun nv iv wr=>∃(k:Nat) (kq:List (Kid×List Kid)),iv=.int .i64 (k:Int)/\k<=pl.length/\Hid (bP w1.heap.size 86 4 nv ((kq.map (·.1)).map fun p=>(iC (h+1) p).toArray) wr)/\
  Hid ((∀x∈kq,fD (fun g=>(S g\/w.heap.size<=g)/\g<w1.heap.size) wr (h+1) x.1/\x.1.l=eV x.2/\x.1.k=x.2.length)/\kq.map (·.2)=(pl.take k).map (·.2))/\Hid (Below w1.heap.size w1 wr)) (fun _ iv _=>pl.length-(intOf iv).toNat)
 case atStart=>exact⟨0,[],rfl,aQ _,⟨kM _ _ _ _,aE _,fun c h=>uQu⟩,⟨fun x h=>uQu,rfl⟩,aY _ _⟩
 case round=>
  obtain⟨Wo,hWo⟩:∃Wo,Wo=wr:=⟨_,rfl⟩
  subst hWo;obtain⟨k,kq,rfl,hk,HP,HK,HB⟩:=hrel;by_cases hlt:k<pl.length
  ·have hpp:=aFm HPL.out hlt
   obtain rfl:a1=some ⟨g1,0,none⟩:=HA1.out uAu;have hc:=(HB.out.cell (p:=⟨g1,k,none⟩) (aM _ _ (HC1.out k hlt))).trans (HC1.out k hlt);have HH:=iH (HH1.out _ (aO hlt));have hmem:pl[k].2∈iY (kI xs.length) xs:=by rw[<-HPL.out];exact cH.2 ⟨pl[k],aO hlt,rfl⟩
   obtain⟨q,hq⟩:∃q,q=pl[k]:=⟨_,rfl⟩
   rw[<-hq]at hc hpp HH hmem;obtain⟨qv,ql⟩:=q;dsimp only at hc hpp HH hmem;have hqx:∀y∈ql,y∈xs:=fun y hy=>by have:=aFC hmem y hy;rwa[tU]at this
   have hqn:(eV ql).length<=100000:=by have:=aC8 _ hmem;rw[tU]at this;have:=HN.out;omega
   obtain⟨n,hn⟩:∃n,n=ql.length:=⟨_,rfl⟩
   rw[<-hn]at hpp HH;obtain⟨g,c,cur,fr,rfl,hcap,hSg,hg,hcs⟩:=HH.out.pos hpp.1;have hH5:(H:Int)<=100000:=by
    have h1:=(HX.out _ (hqx ql[0] (aO uAu))).2.high;have h2:=sP (c:=1) ql fun q hq=>(HX.out q (hqx q hq)).2.len0
    have h3:ql[0].l.length<=(eV ql).length:=by
     have e1:(eV (ql.take 1)).length=(eV (ql.take 0)).length+ql[0].l.length:=oL uAu;have:=uY (ks:=ql) 1;omega
    have:=HHH.out;omega
   have hgr:=(HB.out.block g (gZ hg)).trans hg;have ch:Wo.cell? ⟨g,1,none⟩=some (.int .i64 (H:Int)):=by
    have:=sK (h:=h) (g:=g) hgr hcs (j:=0) uAu 1 (.int .i64 ((h+1:Nat):Int)) rfl;rw[HHH.out];simpa using this
   have HGR:=iH hgr;have HCS:=iH hcs;have HQ:=iH hq;have HNN:=iH hn;have HPP:=iH hpp;have HQX:=iH hqx;have HQN:=iH hqn;have hn16:(n:Int)<=16:=by omega
   have hn0:(0:Int)<n:=by omega
   have HGW:Hid (g<w1.heap.size):=(gZ hg)
   have HLEN:Hid (kq.length<=100000):=by
    exact Ah7
   have HHQ:=iH HH.out.old;clear hq hn hpp hcap hk hqx hqn hmem hSg hg hcs hgr;go_wp2_with (refine bV rfl 86 _ _ rfl Wo.heap.size #[.int .i64 0,.int .i64 ((H:Int)+1),.slice (some ⟨g,0,none⟩) n c,.slice none 0 0] rfl rfl 86 qC (aF _ _) dY rfl uAy ?_;intro w2 h2 k2;have HG2:=iH h2;have HB2:Hid (Below Wo.heap.size Wo w2):=(Below.newly' _ _).trans (k2.below (aE _));clear h2 k2)
   go_loopw [25] (fun iv wl=>∃(j:Nat),iv=.int .i64 (j:Int)/\j<=n/\Hid (wl.heap[Wo.heap.size]? =some (.cells #[.int .i64 ((eV (ql.take j)).length:Int),.int .i64 ((H:Int)+1),.slice (some ⟨g,0,none⟩) n c,.slice none 0 0] 86 (0,0)))/\Hid (Below Wo.heap.size Wo wl)) (fun iv _=>n-(intOf iv).toNat)
   case atStart=>exact⟨0,rfl,aQ _,HG2,HB2⟩
   case round=>
    clear HG2 HB2;obtain⟨j,rfl,hj,HG,HBL⟩:=hrel;by_cases hjn:j<n
    ·have hjl:j<ql.length:=by have:=HNN.out;omega
     have HRG:=iH (sK (h:=h) (g:=g) ((HBL.out.block g (gZ HGR.out)).trans HGR.out) HCS.out hjl);have HSUM:=iH (oL hjl);have hle:=uY (ks:=ql) (j+1);obtain⟨y,hy⟩:∃y,y=ql[j]:=⟨_,rfl⟩
     rw[<-hy]at HRG HSUM;obtain⟨s,hs⟩:∃s,s=(eV (ql.take j)).length:=⟨_,rfl⟩
     obtain⟨z,hz⟩:∃z,z=y.l.length:=⟨_,rfl⟩
     have hsz:(s:Int)+(z:Int)<=100000:=by have:=HQN.out;have:=HSUM.out;omega
     rw[<-hs]at HG;have HS:=iH hs;have HZ:=iH hz;have hjn':(j:Int)<n:=by omega
     have HYC:Hid ((iC h y).toArray.all (·.oneCell')=true):=by
      show _=_;rw[cO];intro u hu;exact yW h y u uNy
     have HXL:Hid (Wo.heap.size<wr.heap.size):=(gZ HG.out)
     clear hy hs hz hle hj hjl hjn;go_wp2_with (first
      |(refine dA rfl 86 _ rfl g (j*4) rfl (iC h y) _ HRG.out Tryz.underlying86 rfl dY ?_)
      |(refine bV rfl 86 _ _ rfl wr.heap.size (iC h y).toArray rfl rfl 86 qC (aF _ _) dY rfl HYC.out ?_;intro w5 h5 k5;have HB5:Hid (Below wr.heap.size wr w5):=(Below.newly' _ _).trans (k5.below (aE _));have HX5:=iH ((HB5.out.block _ HXL.out).trans HG.out);have q5:w5.cell? ⟨Wo.heap.size,0,none⟩=some (.int .i64 (s:Int)):=aK HX5.out rfl;have f5:w5.frozen? ⟨Wo.heap.size,0,none⟩=false:=frozen_of_row _ _ _ _ _ HX5.out;have r5:w5.cell? ⟨wr.heap.size,0,none⟩=some (.int .i64 (z:Int)):=(by rw[HZ.out];exact aK h5 rfl);clear h5 k5))
     go_roundw
     case rel=>
      refine⟨j+1,by simp,by have:=HNN.out;omega,?_,(tW HBL.out HB5.out).setCell (p:=⟨Wo.heap.size,0,none⟩) (aE _) _⟩;rw[HSUM.out,<-HS.out,<-HZ.out];exact heap_setCell_same w5 _ 0 _ _ _ HX5.out
     case measure=>simp[intOf];omega
    ·obtain rfl:j=n:=by omega
     have HCT:Hid (eV (ql.take j)=eV ql):=by show _=_;rw[aZ (by have:=HNN.out;omega)]
     rw[HCT.out]at HG;have HKO:=iH (HP.out.later HBL.out);clear hj hjn;go_wp2_with (first
      |(refine bR rfl 86 _ rfl Wo.heap.size rfl 86 _ _ _ HG.out Tryz.underlying86 rfl dY ?_)
      |(refine nK rfl 84 86 _ rfl #[.int .i64 ((eV ql).length:Int),.int .i64 ((H:Int)+1),.slice (some ⟨g,0,none⟩) j c,.slice none 0 0] 4 (.agg qC) rfl rfl uAv uAv Tryz.underlying84 hO ?_;intro w3 h3 hb3 hs3;have HG3:=iH h3;have HB3:=iH hb3;clear h3 hb3 hs3)
      |(refine rY rfl (z:=.agg qC) (by_:=64) 84 86 _ _ rfl rfl (HKO.out.later HB3.out) wr.heap.size rfl HG3.out rfl uAy Tryz.underlying84 hO rfl uAv (by rw[aH,aH];exact HLEN.out) uAv ?_;intro v6 w6 hp6 hg6;have HP6:=iH hp6;have HG6:=iH hg6;clear hp6 hg6))
     go_roundw
     case rel=>
      have hp3:=HKO.out.later HB3.out;have hb3:Below Wo.heap.size Wo w3:=tW HBL.out HB3.out;have hkT:∀X,_=some X->w1.heap.size<=X:=fun X e=>by
       exact Ag7
      have hw1:w.heap.size<=w1.heap.size:=HB1.out.size;refine⟨k+1,kq++[(⟨.slice (some ⟨g,0,none⟩) j c,.slice none 0 0,eV ql,j,rfl,rfl⟩,ql)],by simp,by omega,?_,⟨fun x hx=> ?_,?_⟩,?_⟩
      ·rw[bQ,bQ]
       have e:((iC (h+1) ⟨.slice (some ⟨g,0,none⟩) j c,.slice none 0 0,eV ql,j,rfl,rfl⟩).toArray:Array Value)=#[.int .i64 ((eV ql).length:Int),.int .i64 ((H:Int)+1),.slice (some ⟨g,0,none⟩) j c,.slice none 0 0]:=by
        rw[HHH.out];simp[iC]
       rw[qB,qB,e];exact HP6.out
      ·rcases cP.1 hx with hx|hx
       ·exact⟨((HK.out.1 x hx).1.later hb3).kept HG6.out (fun X e h=>by have:=hkT X e;omega),(HK.out.1 x hx).2⟩
       ·rw[cB]at hx
        subst hx;refine⟨⟨rfl,HPP.out.1,HPP.out.2,ql,?_,HNN.out.symm,rfl,fun q hq=>⟨(HX.out q (HQX.out q hq)).1,?_⟩⟩,rfl,HNN.out⟩
        ·exact(((HHQ.out.later HB.out).later hb3).kept HG6.out (fun X e h=>by have:=hkT X e;omega)).weak fun g hg=>⟨.inr hg.1,hg.2⟩
        ·exact(((HX.out q (HQX.out q hq)).2.later (HB1.out.trans ((tW HB.out hb3).mono hw1))).kept HG6.out (fun X e h=>by have:=hkT X e;omega)).weak fun g hg=>⟨.inl hg.1,by omega⟩
      ·exact Ai4
      ·exact(tW HB.out hb3).trans (lQ HG6.out (by have:=HB.out.size;have:=hb3.size;omega) hkT)
     case measure=>simp[intOf];omega
  ·obtain rfl:k=pl.length:=by omega
   go_wp2_with fail
   go_ret;have hk:=HK.out;rw[eN,HPL.out]at hk;refine⟨_,rfl,kq.map (·.1),⟨?_,fun p hp=> ?_⟩,?_,aLs hk.2 fun x hx=>(hk.1 x hx).2.2,tW HB1.out HB.out⟩
   ·have h:=(aFb HP.out).weak (S':=fun g=>S g\/w.heap.size<=g) (fun g hg=>.inr (aG HB1.out.size hg))
    rw[aDb,aH]at h;exact h
   ·exact Aj5
   ·rw[aDq _ fun x hx=>(hk.1 x hx).2.1,hk.2,tU]
theorem aD8 {α:Type} (w:World) (ls:List (Value×α)) (T:TypeId):∀k (hk:k<ls.length),(w.alloc (.cells (ls.map (·.1)).toArray T)).cell? ⟨w.heap.size,k,none⟩=some ls[k].1:=fun k hk=>
 aK (aF w _) (by rw[List.getElem?_toArray,List.getElem?_map,List.getElem?_eq_getElem hk];rfl)
theorem aHO (h:Nat) (p:Kid):(iC h p).toArray.all (·.oneCell')=true:=by
 exact Ai8
theorem eR {W:World} {c d:Array Value} {T T':TypeId} {w2:World} (e:(W.alloc (.cells c T)).alloc (.cells d T')=w2):
  Below W.heap.size W w2/\w2.heap[W.heap.size]? =some (.cells c T (0,0))/\w2.heap[W.heap.size+1]? =some (.cells d T' (0,0))/\w2.heap.size=W.heap.size+2:=by
 subst e;refine⟨Below.more (Below.newly' _ _) _,((Below.newly' _ _).block _ uBu).trans (aF _ _),?_,by simp⟩;have h:=aF (W.alloc (.cells c T)) (.cells d T');rwa[World.size_alloc]at h
theorem mU {W W':World} {g o:Nat} {vs:List Value} (h:W.rangeAt g o vs) (hb:Below W.heap.size W W'):W'.rangeAt g o vs:=
 fun j v hv=>(hb.cell (p:=⟨g,o+j,none⟩) (aM W _ (h j v hv))).trans (h j v hv)
theorem aH1 (w:World) {S:Nat->Prop} (h:Nat) (ls:List (Value×List Kid)) (hcut:∀p∈ls,bZ S w 4 p.1 (en (iC h) p.2) p.2.length)
  (xs:List Kid) (hxs:eZ ls ls.length=xs) (hx:∀q∈xs,8<=q.k/\fD S w h q) (hN:(eV xs).length<=100000) (hl:ls.length<=1000):
  Calls Tryz.prog 109 #[.slice (some ⟨w.heap.size,0,none⟩) ls.length ls.length] (w.alloc (.cells (ls.map (·.1)).toArray 84)) fun e w'=>∃v,e=.returned v/\∃ks,jH (fun g=>S g\/w.heap.size<=g) w' (h+1) v ks/\eV ks=eV xs/\Fit xs.length ks/\Below w.heap.size w w':=by
 have hb:=Below.newly' w (.cells (ls.map (·.1)).toArray 84);refine(aCR (S:=S) _ h w.heap.size ls (aD8 w ls _) (fun p hp=>(hcut p hp).later hb) xs hxs (fun q hq=>⟨(hx q hq).1,(hx q hq).2.later hb⟩) hN hl).mono ?_;rintro e w' ⟨v,rfl,ks,h1,h2,h3,h4⟩;exact⟨v,rfl,ks,h1.weak fun g hg=>hg.imp_right fun h=>(by simp at h;omega),h2,h3,tW hb h4⟩
theorem aBJ (w:World) {S:Nat->Prop} (ls:List (Value×List Cel)) (hcut:∀p∈ls,bZ S w 4 p.1 (ivV p.2) p.2.length)
  (xs:List Cel) (hxs:eZ ls ls.length=xs) (hN:xs.length<=100000) (hl:ls.length<=1000):
  Calls Tryz.prog 110 #[.slice (some ⟨w.heap.size,0,none⟩) ls.length ls.length] (w.alloc (.cells (ls.map (·.1)).toArray 52)) fun e w'=>∃v,e=.returned v/\∃ks,jH (fun g=>w.heap.size<=g) w' 0 v ks/\eV ks=xs/\Fit xs.length ks/\Below w.heap.size w w':=by
 have hb:=Below.newly' w (.cells (ls.map (·.1)).toArray 52);refine(aIJ (S:=S) _ w.heap.size ls (aD8 w ls _) (fun p hp=>(hcut p hp).later hb) xs hxs hN hl).mono ?_;rintro e w' ⟨v,rfl,ks,h1,h2,h3,h4⟩;exact⟨v,rfl,ks,h1.weak fun g hg=>(by simp at hg;omega),h2,h3,tW hb h4⟩
theorem aFU {N m:Nat} {ks:List Kid} (hf:Fit N ks) (h0:1<=N) (h1:N<=32) (hm:m<=8) (hN:m<=N):(1<=ks.length/\ks.length<=2)/\∀x∈ks,m<=x.k/\(2<=ks.length->8<=x.k):=by
 have hl:1<=ks.length/\ks.length<=2:=by rw[hf.1];unfold kI;omega
 refine⟨hl,fun x hx=>⟨?_,(hf.2 x hx).1⟩⟩;by_cases h2:2<=ks.length
 ·have:=(hf.2 x hx).1 h2;omega
 ·have:=(hf.2 x hx).2 uAu;omega
end Go.Proofs.YtengibnpebfblaaGreatDoor
