import Derived.Test.YtengibnpebfblaaGreatDoorQ0
import Derived.Test.YtengibnpebfblaaGreatDoorQ35
set_option maxRecDepth 1000000
set_option maxHeartbeats 8000000
set_option linter.unusedSimpArgs false
namespace Go.Proofs.YtengibnpebfblaaGreatDoor
open Go.RowKit
theorem aLt (M:Nat) (a:Tr):OkT a->fU a<=M->pF M a:=by
 induction a using fS with
 |h k n t ks xs ih=>
  intro ho hn;have h1:=rC.1 ho;have h2:=mF.1 h1.1;have h3:=pO (.nd k n t ks xs);have h4:=uR xs;simp only[Tr.k,Tr.n,Tr.t,Tr.ks,Tr.xs]at h1 h2 h3;refine sI.2 ⟨?_,fun x hx=>ih x hx (h1.2.1 x hx) ?_⟩
  ·show ks.length<=M
   rcases h2 with⟨_,_,_,h,_⟩|⟨_,_,⟨_,h⟩|⟨_,h,_⟩|⟨_,h⟩⟩
   ·rw[h];exact aQ _
   ·rw[h];exact aQ _
   ·omega
   ·rw[h];exact aQ _
  ·have h5:x∈xs:=hx
   have:=uP h5;omega
theorem aFB {β:Type} {I:List Nat} {l:List β} {x:β} (h:x∈jP I l):x∈l:=by
 unfold jP at h;obtain⟨i,_,hi⟩:=List.mem_filterMap.1 h;exact fY hi
theorem aMb (B c:Nat) (a:Tr):jQ B a->jQ B (xF c a):=by
 induction a using fS with
 |h k n t ks xs ih=>
  intro h;have h1:=eT.1 h;simp only[Tr.t,Tr.ks,Tr.xs]at h1;rw[xF,eT];refine⟨h1.1,fun y hy=> ?_,fun x hx=> ?_⟩
  ·have hy':y∈(if k=5 then jP (oP xs.length c) ks else[]):=hy
   split at hy'
   ·exact h1.2.1 y (aFB hy')
   ·cases hy'
  ·have hx':x∈(if k=4 then rO c xs else jP (oP xs.length c) (rO c xs)):=hx
   have hx2:x∈rO c xs:=by
    split at hx'
    ·exact hx'
    ·exact aFB hx'
   rw[yI]at hx2;obtain⟨y,hy,rfl⟩:=cH.1 hx2;exact ih y hy (h1.2.2 y hy)
theorem one_trn (c:Nat) {a:Tr} (h:oX a=0) (hn:fU a<=2000) (ht:jQ 3000 a):pF 2000 (xF c a)/\jQ 3000 (xF c a)/\fU (xF c a)<=2000/\oX (xF c a)=0/\cU (xF c a)=cU a:=by
 have ho:=(mN.1 h).1;have h1:=aEr c a ho;have h2:=aEU c a ho;exact⟨aLt _ _ h1.2 uAu,aMb _ _ _ ht,by omega,aN6 c h,h1.1⟩
theorem aMF {a:Tr} (h:oX a=0) (hr:pE a) (hn:fU a<=2000) (ht:jQ 3000 a):pF 2000 (cU a)/\jQ 3000 (cU a)/\fU (cU a)<=2000/\oX (cU a)=0/\cU (cU a)=cU a/\dW (cU a):=by
 have ho:=(mN.1 h).1;have h2:=qM a ho;have h3:=lG ho (mN.1 h).2.1 (mN.1 h).2.2 hr ht;exact⟨aLt _ _ (aHW _ h3.1.1) uAu,h3.2,by omega,aN7 h hr,aNb h hr,h3⟩
theorem oK (a:Tr):(kB a).data.toList=dG a:=by simp[kB]
open Go.Shelf
theorem aIr (w:World) (c d:Array Value) (T U:TypeId):Below w.heap.size w ((w.alloc (.cells c T)).alloc (.cells d U)):=(Below.newly' _ _).trans ((Below.newly' _ _).mono uBu)
theorem aGJ {xs ys:List Tr} {j:Nat} (hx:j<xs.length) (hy:j<ys.length):rA (xs.drop j) (ys.drop j)=(wP xs[j] ys[j]&&rA (xs.drop (j+1)) (ys.drop (j+1))):=by
 rw[dZ hx,dZ hy,rA]
theorem aGg {ks ks':List ByteArray} (hl:ks'.length=ks.length) (h:∀j (h1:j<ks.length),ks[j]=ks'[j]' uAu):ks=ks':=aAG hl.symm fun j h1 _=>h j h1
theorem aMz (a:Tr):∀(b:Tr) (v v':Value) (w:World),TrV w a v->TrV w b v'->Calls Tryz.prog 18 #[v,v'] w fun e w'=>e=.returned (.bool (wP a b))/\Below w.heap.size w w':=by
 induction a using fS with
 |h k n t ks xs ih=>
  intro b v v' w hv hv';obtain⟨k',n',t',ks',xs'⟩:=b;obtain⟨kv,xv,rfl,ht,_,_,⟨kd,kcap,kb1,ko,rfl,k1,k2,k3⟩,ad,cap,bb,oo,rfl,h1,hmax,h2⟩:=hv.open';obtain⟨kv',xv',rfl,ht',_,_,⟨kd',kcap',kb2,ko',rfl,k1',k2',k3'⟩,ad',cap',bb',oo',rfl,h1',hmax',h2'⟩:=hv'.open';have hn:=trivial;obtain⟨R,hR⟩:∃R,R=wP (.nd k n t ks xs) (.nd k' n' t' ks' xs'):=⟨_,rfl⟩
  have hneq:(Tr.nd k n t ks xs≠.nd k' n' t' ks' xs')->R=false:=fun h=>by rw[hR];exact iM.2 fun h'=>h ((aF9 _ _).1 h')
  rw[<-hR];by_cases c1:k=k'
  case neg=>
   obtain rfl:=hneq fun h=>c1 (by rw[Tr.nd.injEq]at h;exact h.1)
   exact Ab2
  subst c1;by_cases c2:n=n'
  case neg=>
   obtain rfl:=hneq fun h=>c2 (by rw[Tr.nd.injEq]at h;exact h.2.1)
   exact Ab2
  subst c2;have qt:(t.toList==t.toList)=true:=tA _;by_cases c3:t=t'
  case neg=>
   obtain rfl:=hneq fun h=>c3 (by rw[Tr.nd.injEq]at h;exact h.2.2.1)
   have c3':¬t.toList=t'.toList:=fun h=>c3 uLx
   exact Ab2
  subst c3;by_cases c4:ks'.length=ks.length
  case neg=>
   obtain rfl:=hneq fun h=>c4 (by rw[Tr.nd.injEq]at h;rw[h.2.2.2.1])
   have c4':¬(ks.length:Int)=(ks'.length:Int):=by omega
   exact Ab2
  by_cases c5:xs'.length=xs.length
  case neg=>
   obtain rfl:=hneq fun h=>c5 (by rw[Tr.nd.injEq]at h;rw[h.2.2.2.2])
   have c5':¬(xs.length:Int)=(xs'.length:Int):=by omega
   rw[c4];exact Ab2
  obtain⟨w1,hw1⟩:∃w1,(w.alloc (.cells (trC k n t (.slice kd ks.length kcap) (.slice ad xs.length cap)) 28)).alloc (.cells (trC k n t (.slice kd' ks.length kcap') (.slice ad' xs.length cap')) 28)=w1:=⟨_,rfl⟩
  rw[c4,c5];obtain⟨hb1,hx1,hy1,hs1⟩:=eR hw1;have hm63:(xs.length:Int)<=9223372036854775807:=by unfold maxLen at hmax;omega
  have km63:(ks.length:Int)<=9223372036854775807:=by unfold maxLen at k3;omega
  have HB1:=iH hb1;have HX1:=iH hx1;have HY1:=iH hy1;have HIH:=iH ih;have HLO:=iH h1;have HLC:=iH h2;have HLO':=iH h1';have HLC':=iH h2';have HKO:=iH k1;have HKC:=iH k2;have HKO':=iH k1';have HKC':=iH k2';have HL4:=iH c4;have HL5:=iH c5;have hR2:(ks=ks'->R=rA xs xs')/\(ks≠ks'->R=false):=by
   refine⟨fun h=> ?_,fun h=>hneq fun h'=>h (by rw[Tr.nd.injEq]at h';exact h'.2.2.2.1)⟩;subst h;rw[hR,wP];simp[Tr.k,Tr.n,Tr.t,Tr.ks,Tr.xs]
  clear hneq;have HR:=iH hR2;have cx3:w1.cell? ⟨w.heap.size,3,none⟩=some (.slice kd ks.length kcap):=aK hx1 rfl;have cx0:w1.cell? ⟨w.heap.size,0,none⟩=some (.int .i64 k):=aK hx1 rfl;have cx1:w1.cell? ⟨w.heap.size,1,none⟩=some (.int .i64 n):=aK hx1 rfl;have cx2:w1.cell? ⟨w.heap.size,2,none⟩=some (.string t):=aK hx1 rfl;have cx4:w1.cell? ⟨w.heap.size,4,none⟩=some (.slice ad xs.length cap):=aK hx1 rfl;have cy3:w1.cell? ⟨w.heap.size+1,3,none⟩=some (.slice kd' ks.length kcap'):=aK hy1 rfl;have cy0:w1.cell? ⟨w.heap.size+1,0,none⟩=some (.int .i64 k):=aK hy1 rfl;have cy1:w1.cell? ⟨w.heap.size+1,1,none⟩=some (.int .i64 n):=aK hy1 rfl;have cy2:w1.cell? ⟨w.heap.size+1,2,none⟩=some (.string t):=aK hy1 rfl;have cy4:w1.cell? ⟨w.heap.size+1,4,none⟩=some (.slice ad' xs.length cap'):=aK hy1 rfl;clear ih hv hv' h1 h2 k1 k2 h1' h2' k1' k2' hn hR hR2 hx1 hy1 hb1 hs1 c4 c5;go_enter Tryz.func18,Tryz.ntmps18;go_upto_region 1 with fail
  clear hw1;go_wp2_with fail
  clear cx0 cx1 cx2 cx3 cx4 cy0 cy1 cy2 cy3 cy4;go_loopw [5,47] (fun c i wl=>∃j:Nat,j<=ks.length/\i=.int .i64 (j:Int)/\(∃c':Value,c'=c)/\Hid (∀(q:Nat) (h1:q<j) (h2:q<ks.length) (h3:q<ks'.length),ks[q]=ks'[q])/\Below w1.heap.size w1 wl) (fun _ i _=>ks.length-(intOf i).toNat)
  case atStart=>exact⟨0,aQ _,rfl,⟨_,rfl⟩,(fun q h=>absurd h (dD q)),aY _ _⟩
  case round=>
   obtain⟨j,hj,rfl,_,HT,hb⟩:=hrel;have HB:=iH hb;clear hb;have cx3:wr.cell? ⟨w.heap.size,3,none⟩=some (.slice kd ks.length kcap):=aK (kW HB.out HX1.out) rfl;have cy3:wr.cell? ⟨w.heap.size+1,3,none⟩=some (.slice kd' ks.length kcap'):=aK (kW HB.out HY1.out) rfl;by_cases hlt:j<ks.length
   ·have hlt':(j:Int)<(ks.length:Int):=by omega
    have i0:(0:Int)<=(j:Int):=by omega
    have hlt2:j<ks'.length:=by rw[HL4.out];exact hlt
    have had:kd=some ⟨kb1,ko,none⟩:=HKO.out uAu;have had':kd'=some ⟨kb2,ko',none⟩:=HKO'.out uAu;subst had had';have hc:=HKC.out j hlt;have hc':=HKC'.out j hlt2;have hbw:=tW HB1.out HB.out;replace hc:=(hbw.cell (aM w _ hc)).trans hc;replace hc':=(hbw.cell (aM w _ hc')).trans hc';obtain⟨y,hy⟩:∃y,y=ks[j]:=⟨_,rfl⟩
    obtain⟨y',hy'⟩:∃y',y'=ks'[j]:=⟨_,rfl⟩
    rw[<-hy]at hc;rw[<-hy']at hc';have HYY:=iH (And.intro hy hy');clear hbw hy hy';by_cases e:y=y'
    ·subst e
     have qy:(y.toList==y.toList)=true:=tA _;go_wp2_with (go_quiet (fail))
     go_roundw
     case rel=>
      refine⟨j+1,by omega,by go_num,⟨_,rfl⟩,?_,HB.out.trans ((Below.drewMany (aY _ _) _).mono HB.out.size)⟩;show∀(q:Nat) (h1:q<j+1) (h2:q<ks.length) (h3:q<ks'.length),ks[q]=ks'[q]
      intro q h1 h2 h3;rcases cZ q j with h|h
      ·exact HT.out q h h2 h3
      ·obtain rfl:q=j:=by omega
       rw[<-HYY.out.1,<-HYY.out.2]
     case measure=>simp[intOf];omega
    ·have hne:(y.toList==y'.toList)=false:=bJ.2 fun h=>e uLx
     have hf:¬ks=ks':=fun h=>e (by rw[HYY.out.1,HYY.out.2];simp[h])
     obtain rfl:R=false:=HR.out.2 hf;clear hf e;go_wp2_with (go_quiet (fail))
     go_ret;exact⟨rfl,HB1.out.trans ((HB.out.trans ((Below.drewMany (aY _ _) _).mono HB.out.size)).mono HB1.out.size)⟩
   ·obtain rfl:j=ks.length:=by omega
    have hks:ks=ks':=aGg HL4.out fun q h1=>HT.out q h1 h1 (by have:=HL4.out;omega)
    have HR2:Hid (R=rA xs xs'):=HR.out.1 hks;clear hks HT HR cx3 cy3;have cx4:wr.cell? ⟨w.heap.size,4,none⟩=some (.slice ad xs.length cap):=aK (kW HB.out HX1.out) rfl;go_wp2_with fail
    clear cx4;have HB2:=HB;clear HB;go_loopw [6,65] (fun c i wl=>∃j:Nat,j<=xs.length/\i=.int .i64 (j:Int)/\(∃c':Value,c'=c)/\Hid (R=rA (xs.drop j) (xs'.drop j))/\Below w1.heap.size w1 wl) (fun _ i _=>xs.length-(intOf i).toNat)
    case atStart=>exact⟨0,aQ _,rfl,⟨_,rfl⟩,HR2.out,HB2.out⟩
    case round=>
     obtain⟨j,hj,rfl,_,HT,hb⟩:=hrel;have HB:=iH hb;clear hb HR2;by_cases hlt:j<xs.length
     ·have hlt':(j:Int)<(xs.length:Int):=by omega
      have i0:(0:Int)<=(j:Int):=by omega
      have hlt2:j<xs'.length:=by rw[HL5.out];exact hlt
      have had:ad=some ⟨bb,oo,none⟩:=HLO.out uAu;have had':ad'=some ⟨bb',oo',none⟩:=HLO'.out uAu;subst had had';obtain⟨cs,q1,q2,q3⟩:=HLC.out j hlt;obtain⟨cs',q1',q2',q3'⟩:=HLC'.out j hlt2;have hR2:=HT.out;rw[aGJ hlt hlt2]at hR2;have HMEM:=iH (aO hlt);obtain⟨y,hy⟩:∃y,y=xs[j]:=⟨_,rfl⟩
      obtain⟨y',hy'⟩:∃y',y'=xs'[j]:=⟨_,rfl⟩
      rw[<-hy]at q3 HMEM hR2;rw[<-hy']at q3' hR2;obtain⟨k1',n1',t1',pa,pl,pc,qa,ql,qc,rfl⟩:=q3.cells;obtain⟨k2',n2',t2',ra,rl,rc,sa,sl,sc,rfl⟩:=q3'.cells;have hbw:=tW HB1.out HB.out;obtain⟨z,hz⟩:∃z,wP y y'=z:=⟨_,rfl⟩
      have HCL:Hid (∀V,Below wr.heap.size wr V->Calls Tryz.prog 18 #[.agg (trC k1' n1' t1' (.slice pa pl pc) (.slice qa ql qc)),.agg (trC k2' n2' t2' (.slice ra rl rc) (.slice sa sl sc))] V fun e w'=>e=.returned (.bool z)/\Below V.heap.size V w'):=fun V hV=>by
       have:=HIH.out y HMEM.out y' _ _ V (q3.later (tW hbw hV)) (q3'.later (tW hbw hV));rw[hz]at this;exact this
      rw[hz]at hR2;have HR3:=iH hR2;have HKS:Hid (∀V,Below wr.heap.size wr V->(V.cell? ⟨w.heap.size,4,none⟩=some (.slice (some ⟨bb,oo,none⟩) xs.length cap)/\V.cell? ⟨w.heap.size+1,4,none⟩=some (.slice (some ⟨bb',oo',none⟩) xs.length cap')/\V.rangeAt bb (oo+j*5) (trC k1' n1' t1' (.slice pa pl pc) (.slice qa ql qc)).toList/\V.rangeAt bb' (oo'+j*5) (trC k2' n2' t2' (.slice ra rl rc) (.slice sa sl sc)).toList)):=fun V hV=>⟨aK (((tW HB.out hV).block _ (gZ HX1.out)).trans HX1.out) rfl,aK (((tW HB.out hV).block _ (gZ HY1.out)).trans HY1.out) rfl,
       fun i u hu=>((tW hbw hV).cell (aM w _ (q2 i u hu))).trans (q2 i u hu),fun i u hu=>((tW hbw hV).cell (aM w _ (q2' i u hu))).trans (q2' i u hu)⟩
      have HW:Hid (Below wr.heap.size wr wr.drew):=bE wr;have HBW:=iH hbw;clear q1 q2 q3 q1' q2' q3' hy hy' hR2 HT hz hbw hlt2;cases z with
      |false=>
       obtain rfl:R=false:=by rw[HR3.out,Bool.false_and]
       go_wp2_with fail
       refine bL (S:=(fun V=>V.cell? ⟨w.heap.size,4,none⟩=some (.slice (some ⟨bb,oo,none⟩) xs.length cap)/\V.cell? ⟨w.heap.size+1,4,none⟩=some (.slice (some ⟨bb',oo',none⟩) xs.length cap')/\V.rangeAt bb (oo+j*5) (trC k1' n1' t1' (.slice pa pl pc) (.slice qa ql qc)).toList/\V.rangeAt bb' (oo'+j*5) (trC k2' n2' t2' (.slice ra rl rc) (.slice sa sl sc)).toList)) [11] hO uAw (fun hHeld=> ?_);refine tkA 0 68 (h:=?_);refine tkA 1 69 (h:=?_);(try simp only[pq]);refine tkA 2 70 (h:=?_);refine tkA 3 71 (h:=?_);(try simp only[pq]);refine tyA 4 72 (hy:=bT uAz 28 _ rfl bb (oo+j*5) rfl (trC k1' n1' t1' (.slice pa pl pc) (.slice qa ql qc)) _ (fun w hw=>hw.2.2.1) Tryz.underlying28 rfl uMu) (h:=?_);refine tkA 5 73 (h:=?_);(try simp only[pq]);refine tkA 6 74 (h:=?_);refine tkA 7 75 (h:=?_);(try simp only[pq]);refine tkA 8 76 (h:=?_);refine tyA 9 77 (hy:=bT uAz 28 _ rfl bb' (oo'+j*5) rfl (trC k2' n2' t2' (.slice ra rl rc) (.slice sa sl sc)) _ (fun w hw=>hw.2.2.2) Tryz.underlying28 rfl uMu) (h:=?_);(try simp only[pq]);refine tkO 10 (some 78) (h:=fun K hK=> ?_);go_simp;go_at_call 18;(with_reducible refine(HCL.out _ HW.out).mono ?_);rintro r w5 ⟨rfl,hb⟩;replace HW:=iH (tW HW.out hb);clear hb;dsimp only;refine hK.out _ _ uAw (fun hHeld=> ?_);clear hK K;(try simp only[pq]);refine tkU 11 (some 79) (h:=fun K hK=> ?_);go_simp;refine hK.out _ _ ?_;clear hK K;(try simp only[pq]);refine bK hO ?_ _;clear hHeld;go_wp2_with fail
       go_ret;exact⟨rfl,tW HBW.out HW.out⟩
      |true=>
       go_wp2_with fail
       refine bL (S:=(fun V=>V.cell? ⟨w.heap.size,4,none⟩=some (.slice (some ⟨bb,oo,none⟩) xs.length cap)/\V.cell? ⟨w.heap.size+1,4,none⟩=some (.slice (some ⟨bb',oo',none⟩) xs.length cap')/\V.rangeAt bb (oo+j*5) (trC k1' n1' t1' (.slice pa pl pc) (.slice qa ql qc)).toList/\V.rangeAt bb' (oo'+j*5) (trC k2' n2' t2' (.slice ra rl rc) (.slice sa sl sc)).toList)) [11] hO uAw (fun hHeld=> ?_);refine tkA 0 68 (h:=?_);refine tkA 1 69 (h:=?_);(try simp only[pq]);refine tkA 2 70 (h:=?_);refine tkA 3 71 (h:=?_);(try simp only[pq]);refine tyA 4 72 (hy:=bT uAz 28 _ rfl bb (oo+j*5) rfl (trC k1' n1' t1' (.slice pa pl pc) (.slice qa ql qc)) _ (fun w hw=>hw.2.2.1) Tryz.underlying28 rfl uMu) (h:=?_);refine tkA 5 73 (h:=?_);(try simp only[pq]);refine tkA 6 74 (h:=?_);refine tkA 7 75 (h:=?_);(try simp only[pq]);refine tkA 8 76 (h:=?_);refine tyA 9 77 (hy:=bT uAz 28 _ rfl bb' (oo'+j*5) rfl (trC k2' n2' t2' (.slice ra rl rc) (.slice sa sl sc)) _ (fun w hw=>hw.2.2.2) Tryz.underlying28 rfl uMu) (h:=?_);(try simp only[pq]);refine tkO 10 (some 78) (h:=fun K hK=> ?_);go_simp;go_at_call 18;(with_reducible refine(HCL.out _ HW.out).mono ?_);rintro r w5 ⟨rfl,hb⟩;replace HW:=iH (tW HW.out hb);clear hb;dsimp only;refine hK.out _ _ uAw (fun hHeld=> ?_);clear hK K;(try simp only[pq]);refine tkU 11 (some 79) (h:=fun K hK=> ?_);go_simp;refine hK.out _ _ ?_;clear hK K;(try simp only[pq]);refine bK hO ?_ _;clear hHeld;go_wp2_with fail
       go_roundw
       case rel=>exact⟨j+1,by omega,by go_num,⟨_,rfl⟩,by have h:=HR3.out;rw[lF]at h;exact h,tW HB.out HW.out⟩
       case measure=>simp[intOf];omega
     ·obtain rfl:j=xs.length:=by omega
      have hR2:=HT.out;rw[aAH,eD (jZ HL5.out),rA]at hR2;subst hR2;go_wp2_with fail
      go_ret;exact⟨rfl,tW HB1.out HB.out⟩
theorem aNw (a:Tr) (ih:∀y∈a.xs,aLW y):aLW a:=by
 obtain⟨k,n,t,ks,xs⟩:=a;intro v w rb s bb d m hv hfew htxt hnod hrb hs hT hne hm9 hd9;have hv0:=hv;obtain⟨kv,xv,rfl,ht,_,_,⟨kd,kcap,kb1,ko,rfl,k1,k2,k3⟩,ad,cap,bt,oo,rfl,h1,hmax,h2⟩:=hv.open';have hrl:=(gZ hrb)
 have hn3:aDs w rb:=⟨_,_,_,_,_,_,_,_,hrb⟩
 have hrng:=oG _ _ hv;have hxl:=uR xs;rw[fU]at hnod;obtain⟨L,hL⟩:∃L,L=gU (.nd k n t ks xs) d m:=⟨_,rfl⟩
 rw[<-hL];rw[gU]at hL;obtain⟨lk,hlk⟩:∃lk,lk=ks.length:=⟨_,rfl⟩
 obtain⟨lx,hlx⟩:∃lx,lx=xs.length:=⟨_,rfl⟩
 rw[<-hlk]at hv0;rw[<-hlx]at hv0 hmax;rw[<-hlk,<-hlx];have HLK:=iH (And.intro hlk hlx);clear hlk hlx;have HCK:=iH (fun V (hg:w.grownBy V (some rb))=>wK (.nd k n t ks xs) _ V (hv0.but hg hn3) (aG (sI.1 hfew).1 uAv));have HPL:=iH (fun W=>xC k n t (.slice kd lk kcap) (.slice ad lx cap) W);obtain⟨w1,hw1⟩:∃w1,(w.alloc (.cells (trC k n t (.slice kd lk kcap) (.slice ad lx cap)) 28)).alloc (.cells #[.int .i64 0,.int .i64 0,.string ⟨#[]⟩,.pointer none] 35)=w1:=⟨_,rfl⟩
 obtain⟨hb1,hx1,hr1,hs1⟩:=eR hw1;have HX1:=iH hx1;have HR1:=iH hr1;have HRB1:=iH ((hb1.block _ hrl).trans hrb);have HB1:=iH hb1;have HS1:=iH hs1;have HRL:=iH hrl;have hm0:(m:Int)<=100000:=by omega
 have HM1:Hid (((m+1:Nat):Int)=(m:Int)+1):=by show _=_;omega
 have hd0:(d:Int)<=1000:=by omega
 have crb:=aK HRB1.out (j:=2) (v:=.int .i64 (m:Int)) rfl;by_cases c1:64<d
 ·rw[if_pos c1]at hL
  subst hL;have c1':(64:Int)<(d:Int):=by omega
  show Calls _ _ _ _ fun e w'=>∃y,e=.returned (.tuple #[.agg (aX y),.int .i64 7])/\VAt (fun g=>w.heap.size<=g) w' iE y/\w'.heap[rb]? =some (.cells #[.int .u64 (s:Int),.int .i64 bb,.int .i64 ((m+1:Nat):Int)] 125 (0,0))/\w.grownBy w' (some rb)
  exact Aa3
 rw[if_neg c1]at hL;have c1':¬(64:Int)<(d:Int):=by omega
 by_cases c2:16384<m+1
 ·rw[if_pos c2]at hL
  subst hL;have c2':(16384:Int)<((m+1:Nat):Int):=by omega
  show Calls _ _ _ _ fun e w'=>∃y,e=.returned (.tuple #[.agg (aX y),.int .i64 8])/\VAt (fun g=>w.heap.size<=g) w' iE y/\w'.heap[rb]? =some (.cells #[.int .u64 (s:Int),.int .i64 bb,.int .i64 ((m+1:Nat):Int)] 125 (0,0))/\w.grownBy w' (some rb)
  exact Aa3
 rw[if_neg c2]at hL;have c2':¬(16384:Int)<((m+1:Nat):Int):=by omega
 obtain⟨o,ho⟩:∃o,o=nQ (.nd k n t ks xs):=⟨_,rfl⟩
 rw[<-ho]at HCK hL;by_cases c3:o=0
 case neg=>
  rw[if_pos c3]at hL;subst hL;show Calls _ _ _ _ fun e w'=>∃y,e=.returned (.tuple #[.agg (aX y),.int .i64 o])/\VAt (fun g=>w.heap.size<=g) w' (if o=0 then cU (.nd k n t ks xs)else iE) y/\w'.heap[rb]? =some (.cells #[.int .u64 (s:Int),.int .i64 bb,.int .i64 ((m+1:Nat):Int)] 125 (0,0))/\w.grownBy w' (some rb)
  rw[if_neg c3];clear hv hv0 hfew htxt hnod hrb hT hne h1 h2 k1 k2 hx1 hr1 hb1 hs1 hrng hrl hn3 ih HPL ho;go_enter Tryz.func66,Tryz.ntmps66;go_upto_region 1 with fail
  clear hw1;go_wp2_with (first
   |(refine qZ rfl 3 _ _ rfl rb 2 _ rfl rfl rfl 125 _ HRB1.out vR (show 2<3 by omega) ?_;intro w2 h2 k2;have HX2:=iH (k2.other HX1.out (fun e=>by have h:=HRL.out;omega));have HR2:=iH (k2.other HR1.out (fun e=>by have h:=HRL.out;omega));have HRB2:Hid (w2.heap[rb]? =some (.cells #[.int .u64 (s:Int),.int .i64 bb,.int .i64 ((m+1:Nat):Int)] 125 (0,0))):=uJw;have HG2:=iH (cJ (dO HB1.out (some rb)) k2.by_);have HS2:Hid (w2.heap.size=w.heap.size+2):=k2.size.trans HS1.out;have crb:=aK HRB2.out (j:=2) (v:=.int .i64 ((m+1:Nat):Int)) rfl;clear h2 k2)
   |(refine bR rfl 28 _ rfl w.heap.size rfl 28 _ _ _ HX2.out Tryz.underlying28 rfl jF ?_)
   |(go_at_call 93;(with_reducible refine(HCK.out _ HG2.out).mono ?_);rintro e w3 ⟨rfl,hb3⟩;have HX3:=iH (kW hb3 HX2.out);have HR3:=iH (kW hb3 HR2.out);have HRB3:=iH (kW hb3 HRB2.out);have HG3:=iH (cJ HG2.out (dO hb3 _));have HS3:Hid (w.heap.size+2<=w3.heap.size):=aG (jZ HS2.out.symm) hb3.size;clear hb3)
   |(refine bV rfl 35 _ _ rfl (w.heap.size+1) #[.int .i64 0,.int .i64 0,.string ⟨#[]⟩,.pointer none] rfl rfl 35 _ HR3.out aR rfl uAy ?_;intro w9 h9 k9))
  have hrl:=HRL.out;exact bF (bU rfl _ _ (w.heap.size+1) 35 _ (0,0) _ rfl h9 Tryz.underlying35 rfl aR) rfl ⟨gT,rfl,mI _ _,k9.other HRB3.out uAu,lS HG3.out k9 uAu⟩
 have hown:nQ (.nd k n t ks xs)=0:=by rw[<-ho];exact c3
 rw[c3]at HCK;rw[if_neg (fun h=>h c3)]at hL;clear c3 ho o;by_cases h3:k<=3
 ·obtain⟨hks,hxs⟩:ks=[]/\xs=[]:=by
   have h:=mF.1 hown;simp only[Tr.k,Tr.n,Tr.t,Tr.ks,Tr.xs]at h;rcases h with h|⟨_,_,h|h|h⟩
   ·exact h.2.2.2
   all_goals omega
  subst hks hxs;have hL2:L=(m+1,0):=by
   rw[hL,gG,if_neg uBu,if_neg uTz]
  subst hL2;have hcan:cU (.nd k n t [] [])=.nd k n t [] []:=by rw[cU,if_neg uAu,if_neg uAu,cV]
  show Calls _ _ _ _ fun e w'=>∃y,e=.returned (.tuple #[.agg (aX y),.int .i64 0])/\VAt (fun g=>w.heap.size<=g) w' (cU (.nd k n t [] [])) y/\w'.heap[rb]? =some (.cells #[.int .u64 (s:Int),.int .i64 bb,.int .i64 ((m+1:Nat):Int)] 125 (0,0))/\w.grownBy w' (some rb)
  rw[hcan];have h34:k<4:=by omega
  clear hv hv0 hfew htxt hnod hrb hT hne h1 h2 k1 k2 hx1 hr1 hb1 hs1 hrng hrl hn3 ih hown hL hcan;go_enter Tryz.func66,Tryz.ntmps66;go_upto_region 1 with fail
  clear hw1;go_wp2_with (first
   |(refine qZ rfl 3 _ _ rfl rb 2 _ rfl rfl rfl 125 _ HRB1.out vR (show 2<3 by omega) ?_;intro w2 h2 k2;have HX2:=iH (k2.other HX1.out (fun e=>by have h:=HRL.out;omega));have HR2:=iH (k2.other HR1.out (fun e=>by have h:=HRL.out;omega));have HRB2:Hid (w2.heap[rb]? =some (.cells #[.int .u64 (s:Int),.int .i64 bb,.int .i64 ((m+1:Nat):Int)] 125 (0,0))):=uJw;have HG2:=iH (cJ (dO HB1.out (some rb)) k2.by_);have HS2:Hid (w2.heap.size=w.heap.size+2):=k2.size.trans HS1.out;have crb:=aK HRB2.out (j:=2) (v:=.int .i64 ((m+1:Nat):Int)) rfl;clear h2 k2)
   |(refine bR rfl 28 _ rfl w.heap.size rfl 28 _ _ _ HX2.out Tryz.underlying28 rfl jF ?_)
   |(go_at_call 93;(with_reducible refine(HCK.out _ HG2.out).mono ?_);rintro e w3 ⟨rfl,hb3⟩;have HX3:=iH (kW hb3 HX2.out);have HR3:=iH (kW hb3 HR2.out);have HRB3:=iH (kW hb3 HRB2.out);have HG3:=iH (cJ HG2.out (dO hb3 _));have HS3:Hid (w.heap.size+2<=w3.heap.size):=aG (jZ HS2.out.symm) hb3.size;have ck3:=aK HX3.out (j:=0) (v:=.int .i64 k) rfl;clear hb3)
   |(refine bR rfl 28 _ rfl w.heap.size rfl 28 _ _ _ HX3.out Tryz.underlying28 rfl jF ?_)
   |(go_at_call 94;(with_reducible refine(HPL.out _).mono ?_);rintro e w4 ⟨rfl,hb4⟩;have HR4:=iH (kW hb4 HR3.out);have HRB4:=iH (kW hb4 HRB3.out);have HG4:=iH (cJ HG3.out (dO hb4 _));clear hb4)
   |(refine bV rfl 35 _ _ rfl (w.heap.size+1) (aX ⟨k,n,t,none⟩) rfl rfl 35 _ HR4.out aR rfl (eU _) ?_;intro w9 h9 k9))
  have hrl:=HRL.out;exact bF (bU rfl _ _ (w.heap.size+1) 35 _ (0,0) _ rfl h9 Tryz.underlying35 rfl aR) rfl ⟨⟨k,n,t,none⟩,rfl,aJS _ _ (a:=.nd k n t [] []) h3,k9.other HRB4.out uAu,lS HG4.out k9 uAu⟩
 exact aNv k n t ks xs ih (.slice kd lk kcap) ad lx cap w rb s bb d m L hv0 hfew htxt uAu hrb hs hT hne hm9 hd9 hown uAu hL uAu uAu HLK.out.2
end Go.Proofs.YtengibnpebfblaaGreatDoor
set_option maxRecDepth 1000000
set_option maxHeartbeats 8000000
set_option linter.unusedSimpArgs false
namespace Go.Proofs.YtengibnpebfblaaGreatDoor
open Go.RowKit
def eC (a b:Tr):Int:=dM (dG a) (dG b)
theorem bO:(Tryz.prog.info? 28).map (·.size)=some 5:=by kernel_rfl
theorem xK (a b:Tr) (v u:Value) (w:World) (hv:TrV w a v) (hu:TrV w b u) (ha:dW a) (hbv:dW b):Calls Tryz.prog 13 #[v,u] w fun e w'=>e=.returned (.int .i64 (eC a b))/\Below w.heap.size w w':=by
 obtain⟨ak,an,att,aa,al,ac,ad,am,ae,rfl⟩:=kG hv;obtain⟨bk,bn,btt,ba,bl,bc,bd,bm,be,rfl⟩:=kG hu;obtain⟨w1,hw1⟩:∃w1,(w.alloc (.cells (trC ak an att (.slice aa al ac) (.slice ad am ae)) 28)).alloc (.cells (trC bk bn btt (.slice ba bl bc) (.slice bd bm be)) 28)=w1:=⟨_,rfl⟩
 obtain⟨hb1,hx1,hx2,hs1⟩:=eR hw1;obtain⟨ka,hka⟩:∃k,k=kB a:=⟨_,rfl⟩
 obtain⟨kz,hkz⟩:∃k,k=kB b:=⟨_,rfl⟩
 obtain⟨n,hn⟩:∃n,n=eC a b:=⟨_,rfl⟩
 have HKA:Hid (∀W,Below w1.heap.size w1 W->Calls Tryz.prog 38 #[.agg (trC ak an att (.slice aa al ac) (.slice ad am ae))] W fun e w'=>e=.returned (.string ka)/\Below W.heap.size W w'):=fun W hb=>by rw[hka];exact aBk a _ W ((hv.later hb1).later hb) ha
 have HKB:Hid (∀W,Below w1.heap.size w1 W->Calls Tryz.prog 38 #[.agg (trC bk bn btt (.slice ba bl bc) (.slice bd bm be))] W fun e w'=>e=.returned (.string kz)/\Below W.heap.size W w'):=fun W hb=>by rw[hkz];exact aBk b _ W ((hu.later hb1).later hb) hbv
 have HOR:Hid (∀W,Calls Tryz.prog 39 #[.string ka,.string kz] W fun e w'=>e=.returned (.int .i64 n)/\Below W.heap.size W w'):=fun W=>by
  have h:=aCX ka kz W uLu;rw[hka,hkz,oK,oK]at h;rw[hn,hka,hkz];exact h.mono fun _ _ h=>⟨h.1,h.2.below⟩
 rw[<-hn];have HB1:=iH hb1;have HKS:Hid (∀V,Below w1.heap.size w1 V->V.heap[w.heap.size]? =some (.cells (trC ak an att (.slice aa al ac) (.slice ad am ae)) 28 (0,0))/\V.heap[w.heap.size+1]? =some (.cells (trC bk bn btt (.slice ba bl bc) (.slice bd bm be)) 28 (0,0))):=fun V hb=>⟨kW hb hx1,kW hb hx2⟩
 have HW:Hid (Below w1.heap.size w1 w1.drew):=bE w1;clear hka hkz hn hb1 hx1 hx2 hs1 hv hu ha hbv;go_enter Tryz.func13,Tryz.ntmps13;go_upto_region 1 with fail
 clear hw1;refine bL (S:=(fun V=>V.heap[w.heap.size]? =some (.cells (trC ak an att (.slice aa al ac) (.slice ad am ae)) 28 (0,0))/\V.heap[w.heap.size+1]? =some (.cells (trC bk bn btt (.slice ba bl bc) (.slice bd bm be)) 28 (0,0)))) [] hO uAw (fun hHeld=> ?_);refine tyL 0 5 (hy:=aP uAz 28 _ rfl w.heap.size rfl (trC ak an att (.slice aa al ac) (.slice ad am ae)) 28 (0,0) _ (fun w hw=>hw.1) Tryz.underlying28 rfl uCy) (h:=?_);refine tyL 2 7 (hy:=aP uAz 28 _ rfl (w.heap.size+1) rfl (trC bk bn btt (.slice ba bl bc) (.slice bd bm be)) 28 (0,0) _ (fun w hw=>hw.2) Tryz.underlying28 rfl uCy) (h:=?_);(try simp only[pq]);refine tkO 1 (some 6) (h:=fun K hK=> ?_);go_simp;go_at_call 38;(with_reducible refine(HKA.out _ uBy).mono ?_);rintro r wa ⟨rfl,hb⟩;replace HW:=iH (tW HW.out hb);clear hb;dsimp only;refine hK.out _ _ uAw (fun hHeld=> ?_);clear hK K;(try simp only[pq]);refine tkO 3 (some 8) (h:=fun K hK=> ?_);go_simp;go_at_call 38;(with_reducible refine(HKB.out _ uBy).mono ?_);rintro r wb ⟨rfl,hb⟩;replace HW:=iH (tW HW.out hb);clear hb;dsimp only;refine hK.out _ _ uAw (fun hHeld=> ?_);clear hK K;(try simp only[pq]);refine tkO 4 (some 9) (h:=fun K hK=> ?_);go_simp;go_at_call 39;(with_reducible refine(HOR.out _).mono ?_);rintro r wc ⟨rfl,hb⟩;replace HW:=iH (tW HW.out hb);clear hb;exact Ac9
theorem aOk (seed:Nat) (a:Tr) (v:Value) (w:World) (hs:seed<18446744073709551616) (hv:TrV w a v) (ha:dW a):Calls Tryz.prog 17 #[.int .u64 (seed:Int),v] w fun e w'=>e=.returned (.int .u64 (aAJ seed (dG a):Nat))/\Below w.heap.size w w':=by
 obtain⟨ak,an,att,aa,al,ac,ad,am,ae,rfl⟩:=kG hv;obtain⟨w1,hw1⟩:∃w1,w.alloc (.cells (trC ak an att (.slice aa al ac) (.slice ad am ae)) 28)=w1:=⟨_,rfl⟩
 obtain⟨hb1,hx1,hs1⟩:=eA hw1;obtain⟨ka,hka⟩:∃k,k=kB a:=⟨_,rfl⟩
 obtain⟨n,hn⟩:∃n,n=aAJ seed (dG a):=⟨_,rfl⟩
 have HKA:Hid (∀W,Below w1.heap.size w1 W->Calls Tryz.prog 38 #[.agg (trC ak an att (.slice aa al ac) (.slice ad am ae))] W fun e w'=>e=.returned (.string ka)/\Below W.heap.size W w'):=fun W hb=>by rw[hka];exact aBk a _ W ((hv.later hb1).later hb) ha
 have HTX:Hid (∀W,Calls Tryz.prog 43 #[.int .u64 (seed:Int),.string ka] W fun e w'=>e=.returned (.int .u64 (n:Nat))/\W=w'):=fun W=>by
  have h:=aKw seed ka hs uLu W;rw[hka,oK]at h;rw[hn,hka];exact h
 rw[<-hn];have HB1:=iH hb1;have HX1:=iH hx1;have HW:Hid (Below w1.heap.size w1 w1):=aY _ _;clear hka hn hb1 hx1 hs1 hv ha;go_enter Tryz.func17,Tryz.ntmps17;go_upto_region 1 with fail
 clear hw1;go_wp2_with (first
  |(refine bR rfl 28 _ rfl w.heap.size rfl 28 _ _ _ HX1.out Tryz.underlying28 rfl bO ?_)
  |(go_at_call 38;(with_reducible refine(HKA.out _ HW.out).mono ?_);rintro r V ⟨rfl,hb⟩;replace HW:=iH (tW HW.out hb);clear hb)
  |(go_at_call 43;(with_reducible refine(HTX.out _).mono ?_);rintro r V2 ⟨rfl,rfl⟩))
 have hb:=tW HB1.out HW.out;go_ret;exact⟨rfl,hb⟩
end Go.Proofs.YtengibnpebfblaaGreatDoor
