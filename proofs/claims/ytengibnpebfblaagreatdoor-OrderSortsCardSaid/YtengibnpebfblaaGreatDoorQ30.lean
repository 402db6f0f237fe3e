import Derived.Test.YtengibnpebfblaaGreatDoorQ0
import Derived.Test.YtengibnpebfblaaGreatDoorQ29
set_option maxRecDepth 1000000
set_option maxHeartbeats 8000000
set_option linter.unusedSimpArgs false
namespace Go.Proofs.YtengibnpebfblaaGreatDoor
open Go.RowKit
def qE (ks:List ByteArray):Bool:=ks.all fun k=>decide (k.size<=200)
mutual
def smT:Tr->Int->Int->Int×Bool
 | .nd _ _ t ks xs,d,l=>if l<1\/80<d\/200<t.size\/l+50<ks.length then(0,false)else if qE ks=false then(0,false)else smL xs (d+1) (l-1)
def smL:List Tr->Int->Int->Int×Bool
 |[],_,l=>(l,true)
 |x::r,d,l=>if(smT x d l).2=true then smL r d (smT x d l).1 else(0,false)
end
mutual
def xV:Tr->Prop
 | .nd _ _ t ks xs=>t.size<=200/\(∀k∈ks,k.size<=200)/\vA xs
def vA:List Tr->Prop
 |[]=>True
 |x::r=>xV x/\vA r
end
theorem aGG {l:List Tr}:vA l↔∀x∈l,xV x:=by
 induction l with
 |nil=>simp[vA]
 |cons x l ih=>rw[vA,ih];simp
theorem tG {ks:List ByteArray}:qE ks=true↔∀k∈ks,k.size<=200:=by simp[qE]
theorem aDQ (a:Tr):∀d l,(smT a d l).2=true->(fU a:Int)<=l/\(smT a d l).1=l-fU a/\xV a/\d+iX a<=81:=by
 induction a using fS with
 |h k n t ks xs ih=>
  intro d l h;have hL:∀(xs:List Tr),(∀x∈xs,∀d l,(smT x d l).2=true->(fU x:Int)<=l/\(smT x d l).1=l-fU x/\xV x/\d+iX x<=81)->∀d l,d<=81->0<=l->(smL xs d l).2=true->(eO xs:Int)<=l/\(smL xs d l).1=l-eO xs/\vA xs/\d+jY xs<=81:=by
   intro xs;induction xs with
   |nil=>intro _ d l hd hl _;rw[smL,eO,jY,vA];simp;omega
   |cons x r ih2=>
    intro hi d l hd hl h;rw[smL]at h ⊢;by_cases hz:(smT x d l).2=true
    ·rw[if_pos hz]at h ⊢
     obtain⟨a1,a2,a3,a4⟩:=hi x (aW ..) d l hz;obtain⟨b1,b2,b3,b4⟩:=ih2 (fun y hy=>hi y (aU _ hy)) d _ hd (by rw[a2];omega) h;rw[eO,jY,vA];refine⟨by rw[a2]at b1;omega,by rw[b2,a2];omega,⟨a3,b3⟩,by omega⟩
    ·rw[if_neg hz]at h;simp at h
  rw[smT]at h ⊢;by_cases h1:l<1\/80<d\/200<t.size\/l+50<ks.length
  ·rw[if_pos h1]at h;simp at h
  rw[if_neg h1]at h ⊢;by_cases h2:qE ks=false
  ·rw[if_pos h2]at h;simp at h
  rw[if_neg h2]at h ⊢;obtain⟨b1,b2,b3,b4⟩:=hL xs ih (d+1) (l-1) uAu uAu h;rw[fU,iX,xV];exact⟨by omega,by rw[b2];omega,⟨by omega,tG.1 uRz,b3⟩,by omega⟩
theorem aKs (a:Tr):∀(v:Value) (d l:Int) (w:World),TrV w a v->0<=d->d<=1000->l<=1000000→ -10<=l->Calls Tryz.prog 65 #[v,.int .i64 d,.int .i64 l] w fun e w'=>e=.returned (.tuple #[.int .i64 (smT a d l).1,.bool (smT a d l).2])/\Below w.heap.size w w':=by
 induction a using fS with
 |h k n t ks xs ih=>
  intro v d l w hv hd1 hd2 hl1 hl2;obtain⟨kv,xv,rfl,ht,_,_,⟨kd,kcap,kb',ko,rfl,k1,k2,k3⟩,ad,cap,bb,oo,rfl,h1,hmax,h2⟩:=hv.open';have HB0:=iH (Below.newly' w (.cells (trC k n t (.slice kd ks.length kcap) (.slice ad xs.length cap)) 28));have hm63:(xs.length:Int)<=9223372036854775807:=by unfold maxLen at hmax;omega
  have km63:(ks.length:Int)<=9223372036854775807:=by unfold maxLen at k3;omega
  have tm63:(t.size:Int)<=9223372036854775807:=by unfold maxLen at ht;omega
  have hwl:IntKind.i64.wrap (l+50)=l+50:=by rw[gE];omega
  by_cases c1:l<1
  case pos=>
   rw[smT,if_pos (.inl c1)];exact Ac7
  by_cases c2:80<d
  case pos=>
   rw[smT,if_pos (.inr (.inl c2))];exact Ac7
  by_cases c3:(200:Int)<(t.size:Int)
  case pos=>
   rw[smT,if_pos (.inr (.inr (.inl uAu)))];exact Ac7
  by_cases c4:l+50<(ks.length:Int)
  case pos=>
   rw[smT,if_pos (.inr (.inr (.inr c4)))];exact Ac7
  rw[smT,if_neg uAu];obtain⟨R,hR⟩:∃R:Int×Bool,R=(if qE ks=false then(0,false)else smL xs (d+1) (l-1)):=⟨_,rfl⟩
  rw[<-hR];have HR:=iH hR;clear hR;have HIH:=iH ih;have HLO:=iH h1;have HLC:=iH h2;have HKO:=iH k1;have HKC:=iH k2;clear ih hv h1 h2 k1 k2;go_enter Tryz.func65,Tryz.ntmps65;go_wp2_with fail
  go_loopw [36] (fun i wl=>∃j:Nat,j<=ks.length/\i=.int .i64 (j:Int)/\Hid (∀k∈ks.take j,k.size<=200)/\Below w.heap.size w wl/\Hid (wl.heap[w.heap.size]? =some (.cells (trC k n t (.slice kd ks.length kcap) (.slice ad xs.length cap)) 28 (0,0)))) (fun i _=>ks.length-(intOf i).toNat)
  case atStart=>exact⟨0,aQ _,rfl,(by simp:∀o∈ks.take 0,o.size<=200),HB0.out,heap_alloc_new _ _⟩
  case round=>
   obtain⟨j,hj,rfl,HT,hb,HX⟩:=hrel;have HB:=iH hb;clear hb;by_cases hlt:j<ks.length
   ·have hlt':(j:Int)<(ks.length:Int):=by omega
    have i0:(0:Int)<=(j:Int):=by omega
    have had:kd=some ⟨kb',ko,none⟩:=HKO.out uAu;subst had;have hc:=HKC.out j hlt;have HMEM:=iH (aO hlt);have HTK:=iH (aS hlt);obtain⟨y,hy⟩:∃y,y=ks[j]:=⟨_,rfl⟩
    rw[<-hy]at hc HMEM HTK;replace hc:=(HB.out.cell (aM w _ hc)).trans hc;clear hy;by_cases h15:(200:Int)<(y.size:Int)
    ·have hf:qE ks=false:=by
      refine iM.2 fun h=> ?_
      have:=tG.1 h _ HMEM.out;omega
     obtain rfl:R=(0,false):=by rw[HR.out,if_pos hf]
     clear hf;go_wp2_with fail
     go_ret2;exact⟨rfl,HB.out⟩
    ·go_wp2_with fail
     go_roundw
     case rel=>
      refine⟨j+1,by omega,by go_num,?_,HB.out,HX⟩;show∀o∈ks.take (j+1),o.size<=200
      intro o ho;rw[HTK.out,cP,cB]at ho;rcases ho with ho|rfl
      ·exact HT.out o ho
      ·omega
     case measure=>simp[intOf];omega
   ·obtain rfl:j=ks.length:=by omega
    have hf:¬qE ks=false:=by
     rw[tG.2 (by have:=HT.out;rwa[eN]at this)];decide
    have HR2:Hid (R=smL xs (d+1) (l-1)):=by
     show _=_;rw[HR.out,if_neg hf]
    clear hf HT HR;have hx:wr.cell? ⟨w.heap.size,4,none⟩=some (.slice ad xs.length cap):=by simp[World.cell?,HX.out]
    go_wp2_with fail
    clear hx;have hwd:IntKind.i64.wrap (d+1)=d+1:=by rw[gE];omega
    have HB1:=HB;clear HB;go_loopw [2,49] (fun m i wl=>∃(j:Nat) (l':Int),j<=xs.length/\i=.int .i64 (j:Int)/\m=.int .i64 l'/\0<=l'/\l'<=1000000/\Hid (R=smL (xs.drop j) (d+1) l')/\Below w.heap.size w wl) (fun _ i _=>xs.length-(intOf i).toNat)
    case atStart=>exact⟨0,l-1,aQ _,rfl,rfl,by omega,by omega,HR2,HB1.out⟩
    case round=>
     clear HX HR2;obtain⟨j,l',hj,rfl,rfl,hl0,hl6,HR2,hb⟩:=hrel;have HB:=iH hb;clear hb;by_cases hlt:j<xs.length
     ·have hlt':(j:Int)<(xs.length:Int):=by omega
      have i0:(0:Int)<=(j:Int):=by omega
      have had:ad=some ⟨bb,oo,none⟩:=HLO.out uAu;subst had;obtain⟨cs,q1,q2,q3⟩:=HLC.out j hlt;have HMEM:=iH (aO hlt);have hdr:xs.drop j=xs[j]::xs.drop (j+1):=dZ hlt;have hR2:=HR2.out;rw[hdr,smL]at hR2;obtain⟨y,hy⟩:∃y,y=xs[j]:=⟨_,rfl⟩
      rw[<-hy]at q3 HMEM hR2;obtain⟨k',n',t',pa,pl,pc,qa,ql,qc,rfl⟩:=q3.cells;have HRW:=iH (show wr.rangeAt bb (oo+j*5) (trC k' n' t' (.slice pa pl pc) (.slice qa ql qc)).toList from fun i v hv=>(HB.out.cell (aM w _ (q2 i v hv))).trans (q2 i v hv));have HT:=iH (q3.later HB.out);have HNW:=iH (show Below w.heap.size w (wr.alloc (.cells (trC k' n' t' (.slice pa pl pc) (.slice qa ql qc)) 28))from Below.alloc HB.out HB.out.size _);have hcl:=HIH.out y HMEM.out _ (d+1) l' _ (HT.out.later (Below.newly' wr (.cells (trC k' n' t' (.slice pa pl pc) (.slice qa ql qc)) 28))) uAu uAu uAu uAu;obtain⟨z1,z2,hz⟩:∃z1 z2,smT y (d+1) l'=(z1,z2):=⟨_,_,rfl⟩
      have hst:=aDQ y (d+1) l';rw[hz]at hcl hR2 hst;have HCL:=iH hcl;have HST:=iH hst;have HR3:=iH hR2;clear q1 q2 q3 hy hdr hcl hst hR2 HR2 hz;cases z2 with
      |false=>
       obtain rfl:R=(0,false):=HR3.out;go_wp2_with (first
        |(refine lM uAz _ rfl bb (oo+j*5) rfl (trC k' n' t' (.slice pa pl pc) (.slice qa ql qc)) HRW.out rfl ?_)
        |(go_at_call 65;(with_reducible refine HCL.out.mono ?_);rintro e w5 ⟨rfl,hb⟩;have HB5:=iH (tW HNW.out hb);clear hb))
       go_ret2;exact⟨rfl,HB5.out⟩
      |true=>
       obtain⟨s1,s2,_,_⟩:=HST.out rfl;simp only at s1 s2;have hnp:=aE3 y;go_wp2_with (first
        |(refine lM uAz _ rfl bb (oo+j*5) rfl (trC k' n' t' (.slice pa pl pc) (.slice qa ql qc)) HRW.out rfl ?_)
        |(go_at_call 65;(with_reducible refine HCL.out.mono ?_);rintro e w5 ⟨rfl,hb⟩;have HB5:=iH (tW HNW.out hb);clear hb))
       go_roundw
       case rel=>exact⟨j+1,z1,by omega,by go_num,by rw[s2],by omega,by omega,HR3.out,HB5.out⟩
       case measure=>simp[intOf];omega
     ·obtain rfl:j=xs.length:=by omega
      have hR2:=HR2.out;rw[aAH,smL]at hR2;subst hR2;go_wp2_with fail
      go_ret2;exact⟨rfl,HB.out⟩
theorem aKu (a:Tr) (v:Value) (m:Int) (w:World) (hv:TrV w a v) (hm:0<=m) (hm2:m<=1000000):Calls Tryz.prog 35 #[v,.int .i64 m] w fun e w'=>e=.returned (.bool (smT a 0 m).2)/\Below w.heap.size w w':=by
 obtain⟨k,n,t,ks,xs⟩:=a;obtain⟨kv,xv,rfl,_,_,_,⟨kd,kcap,_,_,rfl,_,_,_⟩,ad,cap,_,_,rfl,_,_,_⟩:=hv.open';have HNW:=iH (Below.newly' w (.cells (trC k n t (.slice kd ks.length kcap) (.slice ad xs.length cap)) 28));have HCL:=iH (aKs _ _ 0 m _ (hv.later HNW.out) uAu uAu uAu uAu);clear hv;go_enter Tryz.func35,Tryz.ntmps35;go_wp2_with (go_at_call 65;(with_reducible refine HCL.out.mono ?_);rintro e w5 ⟨rfl,hb⟩;have HB5:=iH (tW HNW.out hb);clear hb)
 go_ret;exact⟨rfl,HB5.out⟩
end Go.Proofs.YtengibnpebfblaaGreatDoor
namespace Go.Proofs.YtengibnpebfblaaGreatDoor
open Go.RowKit Go.Shelf Go.Sort
theorem aGz (n:Nat) (a:Option Addr) (cp:Nat) (ss:List (List UInt8)) (w:World) (hn:n<=1000000) (hss:ss.length=n) (hpos:0<n)
    (hclone:Calls Tryz.prog 134 #[.slice a n cp] w fun e w'=>∃v',e=.returned v'/\w'.ownsRow w.heap.size 9 1 v' n (ss.map encStr)/\v'≠.slice none 0 0/\Below w.heap.size w w'):
    Calls Tryz.prog 117 #[.slice a n cp] w fun e w'=>e=.returned (.bool (decide (¬ss.Nodup)))/\Below w.heap.size w w':=by
  obtain⟨z,hz⟩:∃z,z=(Lib.compact (ss.mergeSort fun x y=>decide (x<=y))).length:=⟨_,rfl⟩
  have hcs:=aC5 ss;rw[<-hz,hss]at hcs;obtain⟨R,hR⟩:∃R,R=decide (¬ss.Nodup):=⟨_,rfl⟩
  rw[<-hR];have hlt:decide (z<n)=R:=by
    rw[hR];by_cases h:z<n
    ·rw[lY h,lY (hcs.1 h)]
    ·rw[fA h,fA (fun h'=>h (hcs.2 h'))]
  have HLT:=iH hlt;have HZ:=iH hz;have HSS:=iH hss;clear hz hcs hR hlt hss;go_enter Tryz.func117,Tryz.ntmps117;go_wp2_with (first
    |(go_at_call 134;refine hclone.mono ?_;rintro e w1 ⟨v1,rfl,hown,hnn,hbel⟩
      obtain⟨g,cap,rfl,hbg,hgl,hncap,hcm,hlen,hH⟩:=Lib.holds_of_ownsRow hown hnn;have hsort:=Tryz.slices_Sort_string g 0 cap ss w1 hH hgl uAu;rw[hlen]at hsort;have X:=iH (And.intro hown (And.intro hbel (And.intro hbg (And.intro hgl (And.intro hncap (And.intro hcm (And.intro hlen hH)))))));clear hown hbel hH hnn)
    |(go_at_call 135;refine hsort.mono ?_;rintro e w2 ⟨rfl,nn,os,rfl⟩
      have hl2:(ss.mergeSort fun x y=>decide (x<=y)).length=n:=by rw[List.length_mergeSort];exact HSS.out
      have hH2:Holds encStr (grow (putRow encStr (Sort.ahead w1 nn) g 0 (ss.mergeSort fun x y=>decide (x<=y)).toArray) os) g 0 (ss.mergeSort fun x y=>decide (x<=y)).toArray:=
        holds_grow encStr _ os g 0 _ (by simpa[putRow,mapBlock,Sort.ahead]using X.out.2.2.2.1) (holds_putRow encStr _ g 0 _ _ (holds_ahead encStr w1 nn g 0 _ X.out.2.2.2.2.2.2.2) uBu)
      have hcomp:=Tryz.slices_Compact_string g 0 cap (ss.mergeSort fun x y=>decide (x<=y)) _ hH2 uAu (by have:=X.out.2.2.2.2.1;omega);rw[hl2,<-HZ.out]at hcomp;have HBB:Hid (Below w.heap.size w (grow (putRow encStr (Sort.ahead w1 nn) g 0 (ss.mergeSort fun x y=>decide (x<=y)).toArray) os)):=X.out.2.1.grown (grownBy_sorted _) X.out.2.1.size (fun j hj=>by cases hj;exact X.out.2.2.1);clear hH2 hsort)
    |(go_at_call 136;refine hcomp.mono ?_;rintro e w3 ⟨rfl,q,rfl⟩))
  go_ret;refine⟨?_,Lib.below_putRow HBB.out X.out.2.2.1⟩;rw[<-HLT.out];rfl
theorem aJN (v:Value) (ks:List ByteArray) (w:World) (h:TxV w v ks) (hl:ks.length<=1000000):Calls Tryz.prog 117 #[v] w fun e w'=>e=.returned (.bool (decide (¬ks.Nodup)))/\Below w.heap.size w w':=by
  obtain⟨a,cap,b,o,rfl,ha,hc,hm⟩:=h;have hnd:(ks.map kb).Nodup↔ks.Nodup:=yR;rcases gP ks.length with h0|h0
  ·obtain rfl:=aT h0
   rw[fA uBu];show Calls _ _ #[.slice a 0 cap] _ _;cases a with
   |none=>
    go_enter Tryz.func117,Tryz.ntmps117;go_wp2_with (first
      |(go_at_call 134;refine(Tryz.slices_Clone_string_nil _ _ _).mono ?_;rintro e w1 ⟨rfl,rfl⟩)
      |(go_at_call 135;refine(Tryz.slices_Sort_string_none _ _ _).mono ?_;rintro e w2 ⟨rfl,rfl⟩)
      |(go_at_call 136;refine(Tryz.slices_Compact_string_empty _ _ _).mono ?_;rintro e w3 ⟨rfl,rfl⟩))
    go_ret;exact⟨rfl,aY _ _⟩
   |some p=>
    go_enter Tryz.func117,Tryz.ntmps117;go_wp2_with (first
      |(go_at_call 134;refine(Tryz.slices_Clone_string_zero _ _ _).mono ?_;rintro e w1 ⟨v1,rfl,hown,hnn,hbel⟩;obtain⟨a1,c1,rfl⟩:∃a1 c1,v1=.slice a1 0 c1:=by(rcases hown.2 with⟨e,_⟩|⟨g,cp,cur,e,_⟩<;>exact⟨_,_,e⟩)
        have HB:=iH hbel;clear hown hnn hbel)
      |(go_at_call 135;refine(Tryz.slices_Sort_string_none _ _ _).mono ?_;rintro e w2 ⟨rfl,rfl⟩)
      |(go_at_call 136;refine(Tryz.slices_Compact_string_empty _ _ _).mono ?_;rintro e w3 ⟨rfl,rfl⟩))
    go_ret;exact⟨rfl,HB.out⟩
  ·obtain rfl:=ha h0
   have hcl:=Tryz.slices_Clone_string b o ks.length cap ks w (aE _) uAu (fun j hj=>by rw[hc j hj,List.getD_eq_getElem?_getD,List.getElem?_eq_getElem hj];rfl);have:=aGz ks.length (some ⟨b,o,none⟩) cap (ks.map kb) w hl uBu h0 (hcl.mono fun e w' ⟨v',he,hown,hnn,hbel⟩=>⟨v',he,by
     have e2:(ks.map kb).map encStr=(ks.take ks.length).map Value.string:=by
       rw[eN,kC];apply jX;intro k _;show encStr (kb k)=Value.string k;first|rfl|simp[encStr,kb]
     rw[e2];exact hown,hnn,hbel⟩)
   rw[show decide (¬ks.Nodup)=decide (¬(ks.map kb).Nodup)from by simp only[hnd]];exact this
end Go.Proofs.YtengibnpebfblaaGreatDoor
namespace Go.Proofs.YtengibnpebfblaaGreatDoor
open Go.RowKit Go.Shelf
mutual
def pF (M:Nat):Tr->Prop
 | .nd _ _ _ ks xs=>ks.length<=M/\aCi M xs
def aCi (M:Nat):List Tr->Prop
 |[]=>True
 |x::r=>pF M x/\aCi M r
end
theorem aLu {M:Nat} {l:List Tr}:aCi M l↔∀x∈l,pF M x:=by
 induction l with
 |nil=>simp[aCi]
 |cons x l ih=>rw[aCi,ih];simp
theorem sI {M:Nat} {a:Tr}:pF M a↔a.ks.length<=M/\∀x∈a.xs,pF M x:=by
 cases a with
 |nd k n t ks xs=>rw[pF,aLu];rfl
theorem jF:(Tryz.prog.info? 28).map (·.size)=some 5:=by kernel_rfl
theorem aF8:(Tryz.prog.info? 32).map (·.size)=some 3:=by kernel_rfl
theorem xC (k n:Int) (t:ByteArray) (kv xv:Value) (w:World):Calls Tryz.prog 94 #[.agg (trC k n t kv xv)] w fun e w'=>e=.returned (scV k n t)/\Below w.heap.size w w':=by
 obtain⟨w1,hw1⟩:∃w1,(w.alloc (.cells (trC k n t kv xv) 28)).alloc (.cells #[.int .i64 0,.int .i64 0,.string ⟨#[]⟩] 32)=w1:=⟨_,rfl⟩
 obtain⟨hb1,hx1,hy1,hs1⟩:=eR hw1;have c0:w1.cell? ⟨w.heap.size,0,none⟩=some (.int .i64 k):=aK hx1 rfl;have c1:w1.cell? ⟨w.heap.size,1,none⟩=some (.int .i64 n):=aK hx1 rfl;have c2:w1.cell? ⟨w.heap.size,2,none⟩=some (.string t):=aK hx1 rfl;have HY1:=iH hy1;have HB1:=iH hb1;have HS1:=iH hs1;clear hx1 hy1 hb1 hs1;go_enter Tryz.func94,Tryz.ntmps94;go_upto_region 1 with fail
 clear hw1;go_wp2_with (refine bV rfl 32 _ _ rfl (w.heap.size+1) #[.int .i64 k,.int .i64 n,.string t] rfl rfl 32 _ HY1.out aF8 rfl uAy ?_;intro w2 h2 k2)
 have hs1:=HS1.out;exact bF (cE rfl _ _ (w.heap.size+1) 32 _ (0,0) _ rfl h2 Tryz.underlying32 rfl aF8) rfl ⟨rfl,HB1.out.trans (k2.below uAu)⟩
theorem aNP (k n:Int) (t:ByteArray) (ks:List ByteArray) (xs:List Tr):nQ (.nd k n t ks xs)=if k<0\/6<k then 3 else if k<=3 then(if ks≠[]\/xs.length≠0 then 1 else fH (k,n,kb t))else if n≠0\/t≠⟨#[]⟩then 1 else if(k=5/\ks.length≠xs.length)\/(k≠5/\ks≠[])then 1 else if¬ks.Nodup then 6 else 0:=rfl
theorem aCD {t:ByteArray} (h:¬t=⟨#[]⟩):t.toList.isEmpty=false:=by
 refine iM.2 fun h'=>h ?_
 have h2:t.toList=[]:=List.isEmpty_iff.1 h';rw[eJ]at h2;exact nA (mD.1 h2)
theorem wK (a:Tr) (v:Value) (w:World) (hv:TrV w a v) (hl:a.ks.length<=1000000):Calls Tryz.prog 93 #[v] w fun e w'=>e=.returned (.int .i64 (nQ a))/\Below w.heap.size w w':=by
 obtain⟨k,n,t,ks,xs⟩:=a;obtain⟨kv,xv,rfl,ht,_,_,htx,ad,cap,bb,oo,rfl,_,hmax,_⟩:=hv.open';obtain⟨kd,kcap,kb1,ko,rfl,_,_,k3⟩:=id htx;have hl':ks.length<=1000000:=hl;have hm63:(xs.length:Int)<=9223372036854775807:=by unfold maxLen at hmax;omega
 have htw:=fun W (hb:Below w.heap.size w W)=>aJN (.slice kd ks.length kcap) ks W (htx.later hb) hl'
 obtain⟨R,hR⟩:∃R,R=nQ (.nd k n t ks xs):=⟨_,rfl⟩
 rw[<-hR];rw[aNP]at hR;have eks:ks≠[]↔0<ks.length:=by rw[List.length_pos_iff]
 have hks:(if ks≠[]\/xs.length≠0 then(1:Int)else fH (k,n,kb t))=if 0<ks.length\/0<xs.length then 1 else fH (k,n,kb t):=by
  by_cases h:0<ks.length\/0<xs.length
  ·rw[if_pos h,if_pos (h.imp eks.2 (fun h=>by omega))]
  ·rw[if_neg h,if_neg (fun h'=>h (h'.imp eks.1 (fun h=>by omega)))]
 rw[hks]at hR;obtain⟨lk,hlk⟩:∃lk,lk=ks.length:=⟨_,rfl⟩
 obtain⟨lx,hlx⟩:∃lx,lx=xs.length:=⟨_,rfl⟩
 rw[<-hlk]at htw eks hR ⊢;rw[<-hlx]at hR hm63 ⊢;obtain⟨nd,hnd⟩:∃nd,nd=decide (¬ks.Nodup):=⟨_,rfl⟩
 have hlast:∀R',R'=(if¬ks.Nodup then(6:Int)else 0)->R'=if nd=true then 6 else 0:=fun R' h=>by rw[h,hnd];by_cases h':ks.Nodup<;>simp[h']
 rw[<-hnd]at htw;have HB0:=iH (Below.newly' w (.cells (trC k n t (.slice kd lk kcap) (.slice ad lx cap)) 28));have HX0:Hid ((w.alloc (.cells (trC k n t (.slice kd lk kcap) (.slice ad lx cap)) 28)).heap[w.heap.size]? =some (.cells (trC k n t (.slice kd lk kcap) (.slice ad lx cap)) 28 (0,0))):=aF _ _;have HPL:=iH (fun W=>xC k n t (.slice kd lk kcap) (.slice ad lx cap) W);have HSC:=iH (fun W=>aF7 k n t W);have HTW:=iH htw;clear hv htx ht hl hl' htw hks hnd hmax k3 hlk hlx;by_cases hout:k<0\/6<k
 ·rw[if_pos hout]at hR
  subst hR;have n0:¬k=0:=by omega
  have n1:¬k=1:=by omega
  have n2:¬k=2:=by omega
  have n3:¬k=3:=by omega
  have n4:¬k=4:=by omega
  have n5:¬k=5:=by omega
  have n6:¬k=6:=by omega
  clear eks hout hlast;exact Ab7
 rw[if_neg hout]at hR;by_cases h3:k<=3
 ·rw[if_pos h3]at hR
  have hk:k=0\/k=1\/k=2\/k=3:=by omega
  by_cases c1:0<lk
  ·rw[if_pos (.inl c1)]at hR
   subst hR;clear eks hout h3 hlast;rcases hk with rfl|rfl|rfl|rfl
   all_goals
    exact Ab7
  ·obtain rfl:lk=0:=by omega
   by_cases c2:0<lx
   ·rw[if_pos (.inr c2)]at hR
    subst hR;clear eks hout h3 c1 hlast;rcases hk with rfl|rfl|rfl|rfl
    all_goals
     exact Ab7
   ·obtain rfl:lx=0:=by omega
    rw[if_neg uAu]at hR;obtain⟨R2,hR2⟩:∃R2,R2=fH (k,n,kb t):=⟨_,rfl⟩
    rw[<-hR2]at hR;subst hR;have HSC2:Hid (∀W,Calls Tryz.prog 116 #[scV k n t] W fun e w'=>e=.returned (.int .i64 R)/\Below W.heap.size W w'):=by show∀W,_;rw[hR2];exact HSC.out
    clear eks hout h3 c1 c2 hlast hR2 HSC;rcases hk with rfl|rfl|rfl|rfl
    all_goals
     go_enter Tryz.func93,Tryz.ntmps93;go_wp2_with (first
      |(refine bR rfl 28 _ rfl w.heap.size rfl 28 _ _ _ HX0.out Tryz.underlying28 rfl jF ?_)
      |(go_at_call 94;(with_reducible refine(HPL.out _).mono ?_);rintro e w2 ⟨rfl,hb2⟩;have HB2:=iH (tW HB0.out hb2);clear hb2)
      |(go_at_call 116;(with_reducible refine(HSC2.out _).mono ?_);rintro e w3 ⟨rfl,hb3⟩;have HB3:=iH (tW HB2.out hb3);clear hb3))
     go_ret;exact⟨rfl,HB3.out⟩
 ·rw[if_neg h3]at hR
  have hk:k=4\/k=5\/k=6:=by omega
  by_cases c1:n=0
  case neg=>
   rw[if_pos (.inl c1)]at hR;subst hR;clear eks hout h3 hlast;rcases hk with rfl|rfl|rfl
   all_goals
    exact Ab7
  by_cases c2:t=⟨#[]⟩
  case neg=>
   rw[if_pos (.inr c2)]at hR;subst hR;subst c1;have c2':t.toList.isEmpty=false:=aCD c2;clear eks hout h3 c2 hlast;rcases hk with rfl|rfl|rfl
   all_goals
    exact Ab7
  subst c1 c2;rw[if_neg uBu]at hR;by_cases c3:k=5
  ·subst c3
   by_cases c4:lk=lx
   case neg=>
    rw[if_pos (.inl ⟨rfl,c4⟩)]at hR;subst hR;clear eks hout h3 hk hlast;exact Ab7
   subst c4;rw[if_neg (by rintro(⟨_,h⟩|⟨h,_⟩)<;>first|exact h rfl|exact absurd rfl h)]at hR;have hR2:=hlast _ hR;clear hR hlast hout h3 hk eks;cases nd
   all_goals
    subst hR2;exact Ae1
  ·by_cases c4:lk=0
   case neg=>
    rw[if_pos (.inr ⟨c3,eks.2 uAu⟩)]at hR;subst hR;clear eks hout h3 hlast;rcases hk with rfl|rfl|rfl
    case inr.inl=>exact absurd rfl c3
    all_goals
     clear c3;exact Ab7
   subst c4;rw[if_neg (by rintro(⟨h,_⟩|⟨_,h⟩)<;>first|exact c3 h|exact absurd (eks.1 h) uAu)]at hR;have hR2:=hlast _ hR;clear hR hlast hout h3 eks;cases nd
   all_goals
    subst hR2;rcases hk with rfl|rfl|rfl
    case inr.inl=>exact absurd rfl c3
    all_goals
     clear c3;exact Ae1
end Go.Proofs.YtengibnpebfblaaGreatDoor
namespace Go.Proofs.YtengibnpebfblaaGreatDoor
open Go.RowKit
theorem xD (w:World) (a:Tr) (x:Cel) (ha:dW a) (hv:VAt (fun _=>True) w a x) (hT:fW w):
  Calls Tryz.prog 41 #[.agg (aX x)] w fun r w'=>r=.returned (.string (kB a))/\Below w.heap.size w w':=by
 obtain⟨w1,hw1⟩:∃w1,w.alloc (.cells (aX x) 35)=w1:=⟨_,rfl⟩
 obtain⟨hb1,hx1,hs1⟩:=eA hw1;have hv':VAt (fun g=>g<w.heap.size) w a x:=hv.old.weak fun _ h=>h.2
 have hlt:1<w.heap.size:=aM w _ (hT 0 uAv);have hk:=ha.key;have HA:=iH (aDD a w1 x w.heap.size (.slice none 0 0) [] ha (hv'.low hb1) (hT.below hb1) hlt (Buf.nil hb1.size) uDv);have HX1:=iH hx1;have HB1:=iH hb1;clear hx1 hb1 hs1 hv hv' hT hlt ha hk;go_enter Tryz.func41,Tryz.ntmps41;go_upto_region 1 with fail
 clear hw1;go_wp2_with (first
  |(refine bR rfl 35 _ rfl w.heap.size rfl 35 _ _ _ HX1.out Tryz.underlying35 rfl aR ?_)
  |(go_at_call 71;refine HA.out.mono ?_;rintro r w2 ⟨v2,rfl,hf2,hkw⟩;have hcv:=hf2.str;have HK:=iH hkw;clear hkw))
 go_ret;exact⟨rfl,HB1.out.trans HK.out.1⟩
end Go.Proofs.YtengibnpebfblaaGreatDoor
