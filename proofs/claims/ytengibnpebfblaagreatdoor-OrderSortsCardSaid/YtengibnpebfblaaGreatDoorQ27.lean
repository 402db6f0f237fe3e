import Derived.Test.YtengibnpebfblaaGreatDoorQ0
import Derived.Test.YtengibnpebfblaaGreatDoorQ21
import Derived.Test.YtengibnpebfblaaGreatDoorQ23
set_option maxRecDepth 1000000
set_option maxHeartbeats 8000000
set_option linter.unusedSimpArgs false
namespace Go.Proofs.YtengibnpebfblaaGreatDoor
open Go.RowKit Go.Shelf
attribute [local go_sem] fK
theorem aIB {L M:List Ent} (hL:iO L) (hp:M.Perm L) (hs:M.Pairwise fun a b=>¬kb b.1<kb a.1):M=L:=by
 have hd:M.Pairwise fun a b=>a.1≠b.1:=(List.Perm.pairwise_iff (R:=fun(a b:Ent)=>a.1≠b.1) (fun h=>Ne.symm h) hp).2 (nP (fun h=>rD h) hL)
 have hr:iO M:=by
  refine nP ?_ (List.Pairwise.and hs hd);rintro a b ⟨h1,h2⟩;rcases tri a.1 b.1 with h|h|h
  ·exact h
  ·exact absurd h h2
  ·exact absurd h h1
 exact aCV hr hL hp
theorem aFV {o:Oper} {a:Act} {K:Act->World->Prop} {Q:Exit->Act->World->Prop} {w:World} (l c:Operand) (hop:o.op=.makeSlice 94 l c)
  {B:Nat} (kl kc:IntKind) (C:Int) (n:Nat) (hl:a.eval l=.int kl 0) (hc:a.eval c=.int kc C) (hC:C=(n:Int)) (hn:n<=10000000) (hB:B<=w.heap.size)
  (h:∀w',Eps B (.slice (some ⟨w.heap.size,0,none⟩) 0 n) [] w'->Below w.heap.size w w'->K (a.put o.dst (.slice (some ⟨w.heap.size,0,none⟩) 0 n)) w'):o.wp Tryz.prog a w K Q:=by
 obtain⟨i,hi,hz,h1,h2⟩:=dV sJ;obtain⟨w',hrun,r1,r2⟩:=run_make_own (P:=Tryz.prog) w B 94 161 i (.pointer none) 1 Tryz.underlying94 hi hz h1 kl kc n uKz uCw hB;subst hC;unfold Oper.wp;simp[execOp,hop,hl,hc,hrun,Result.andThen];have hb:Below w.heap.size w w':=(aY _ _).grown r2 (aE _) (fun k hk=>by cases hk);exact h w' ⟨r1,aG hB hb.size⟩ hb
theorem aH8 {B g n:Nat} {w:World} (h:Eps B (.slice (some ⟨g,0,none⟩) 0 n) [] w):g<w.heap.size:=by
 obtain⟨cur,hc⟩:=h.typed g 0 n rfl;exact(gZ hc)
def LstE (B:Nat) (w:World) (v:Value) (qs:List (Nat×Ent)):Prop:=∃(a:Option Addr) (c:Nat),v=.slice a qs.length c/\(0<qs.length->∃g cur,a=some ⟨g,0,none⟩/\B<=g/\w.heap[g]? =some (.cells cur 161 (0,0))/\∀j (hj:j<qs.length),cur[j]? =some (pv (some qs[j].1)))
theorem aNU {B B':Nat} {w:World} {v:Value} {qs:List (Nat×Ent)} (hv:∃a c,v=.slice a qs.length c/\(∀p,a=some p->p.off=0/\p.spot=none)) (hc:bZ (fun g=>B<=g) w 1 v (en enE (qs.map (·.1))) qs.length) (hT:aHk w v) (hB:B'<=B):LstE B' w v qs:=by
 obtain⟨a,c,rfl,h0⟩:=hv;refine⟨a,c,rfl,fun hp=> ?_⟩;obtain⟨g,o,c',e,_,hg,_,hcell⟩:=hc.pos hp;simp only[dR]at e;obtain⟨rfl,_,rfl⟩:=e;obtain⟨rfl,_⟩:=h0 _ rfl;obtain⟨cur,hcur⟩:=hT g _ _ rfl;refine⟨g,cur,rfl,aG hB hg,hcur,fun j hj=> ?_⟩;have h:=hcell j (pv (some qs[j].1)) (by rw[zD,List.getElem?_eq_getElem hj];rfl);rw[dL,Lib.cell_of_heap hcur]at h;exact h
theorem aH6 {S:Nat->Prop} (w:World) (s:Nat) (n:Int) (L:List Ent) (c:Array Value) (h:eQ S w s n L c) (hL:iO L) (hn:L.length<=50000) (hT:fW w):
  Calls Tryz.prog 108 #[.agg c] w fun r w'=>∃(v:Value) (qs:List (Nat×Ent)),r=.returned v/\qs.map (·.2)=L/\(∀q∈qs,jI (hsN s n) (fun g=>S g/\g<w.heap.size) w' q.1 q.2)/\LstE w.heap.size w' v qs/\Below w.heap.size w w'/\w.heap.size+2<=w'.heap.size:=by
 have htn:1<w.heap.size:=aM w _ (hT 0 uAv);obtain⟨bb,a1,n1,c1,a2,n2,c2,rfl,hnd⟩:=h;obtain⟨l,hl⟩:∃l,l=L.length:=⟨_,rfl⟩
 rw[<-hl];obtain⟨w1,hw1⟩:∃w1,w.alloc (.cells #[.int .u64 (s:Int),.int .i64 n,.int .i64 ((l:Nat):Int),.int .u32 (bb:Int),.slice a1 n1 c1,.slice a2 n2 c2] 98)=w1:=⟨_,rfl⟩
 obtain⟨hb1,hx1,hs1⟩:=eA hw1;have HAPP:Hid (∀W,Below w1.heap.size w1 W->∀v,Eps w.heap.size v [] W->Calls Tryz.prog 123 #[.agg #[.int .u32 (bb:Int),.slice a1 n1 c1,.slice a2 n2 c2],v] W (aHm (hsN s n) (fun g=>S g/\g<w.heap.size) w.heap.size W [] L)):=fun W hW v hv=>
  aLl (hsN s n) 13 (aE _) (fun g=>S g/\g<w.heap.size) w.heap.size W L _ v [] (fun g h=>h.2) htn (hnd.old.later (tW hb1 hW)) hn hv uBu (hT.below (tW hb1 hW))
 have HX1:=iH hx1;have HB1:=iH hb1;have HS1:=iH hs1;have HLN:Hid (l<=50000):=by show _<=_;omega
 have HL:=iH (And.intro hL hl);have HKS:Hid (∀V,Below w1.heap.size w1 V->(V.heap[w.heap.size]? =some (.cells #[.int .u64 (s:Int),.int .i64 n,.int .i64 ((l:Nat):Int),.int .u32 (bb:Int),.slice a1 n1 c1,.slice a2 n2 c2] 98 (0,0))/\V.cell? ⟨w.heap.size,2,none⟩=some (.int .i64 (l:Int)))):=fun V hV=>by
  have h:=(hV.block _ uBx).trans HX1.out;exact⟨h,aK h rfl⟩
 have HW:Hid (Below w1.heap.size w1 w1.drew):=bE w1;clear hnd hx1 hb1 hs1 hT hn hL hl htn;go_enter Tryz.func108,Tryz.ntmps108;go_upto_region 1 with fail
 clear hw1;refine bL (S:=(fun V=>V.heap[w.heap.size]? =some (.cells #[.int .u64 (s:Int),.int .i64 n,.int .i64 ((l:Nat):Int),.int .u32 (bb:Int),.slice a1 n1 c1,.slice a2 n2 c2] 98 (0,0))/\V.cell? ⟨w.heap.size,2,none⟩=some (.int .i64 (l:Int)))) [] hO uFx (fun hHeld=> ?_);refine tkA 0 4 (h:=?_);refine tyA 1 5 (hy:=bT uAz 96 _ rfl w.heap.size 3 rfl #[.int .u32 (bb:Int),.slice a1 n1 c1,.slice a2 n2 c2] _ (fun w hw=>(pW hw.1)) Tryz.underlying96 rfl uUu) (h:=?_);(try simp only[pq]);refine tkA 2 6 (h:=?_);refine tkA 3 7 (h:=?_);(try simp only[pq]);refine tkO 4 (some 8) (h:=fun K hK=> ?_);rw[if_pos uAz];refine aFV _ _ rfl (B:=w.heap.size) .i64 .i64 _ l rfl rfl rfl uIv (by have:=HW.out.size;have:=HB1.out.size;omega) ?_;intro w3 hi3 hb;have HI3:=iH hi3;have HG3:Hid (w.heap.size+1<=w1.drew.heap.size):=by show _<=_;have:=HW.out.size;have:=HS1.out;omega
 replace HW:=iH (tW HW.out hb);have HSZ3:Hid (w.heap.size+2<=w3.heap.size):=by
  show _<=_;have:=aH8 hi3;have:=HG3.out;omega
 clear hi3 hb;refine hK.out _ _ uFx (fun hHeld=> ?_);clear hK K;(try simp only[pq]);refine tkO 5 (some 9) (h:=fun K hK=> ?_);go_simp;go_at_call 123;refine(HAPP.out w3 uBy _ HI3.out).mono ?_;rintro r w4 ⟨v4,qs4,rfl,hp4,hq4,he4,ha4⟩;have HP4:=iH hp4;have HQ4:=iH hq4;have HE4:=iH he4;have HA4:=iH ha4;have HW4:Hid (Below w.heap.size w1 w4):=by show Below _ _ _;exact(HW.out.mono HB1.out.size).trans ha4.below
 have HX4:Hid (w4.heap[w.heap.size]? =some (.cells #[.int .u64 (s:Int),.int .i64 n,.int .i64 ((l:Nat):Int),.int .u32 (bb:Int),.slice a1 n1 c1,.slice a2 n2 c2] 98 (0,0))):=ha4.row ((HW.out.block _ uBx).trans HX1.out) uAv;clear hp4 hq4 he4 ha4;dsimp only;refine hK.out _ _ uFx (fun hHeld=> ?_);clear hK K;(try simp only[pq]);refine tkA 6 3 (h:=?_);(try simp only[pq]);refine bK hO ?_ _;clear hHeld;have hqn:qs4.length<=50000:=by
  have h:=HP4.out.length_eq;rw[aH]at h;have:=HLN.out;have:=HL.out.2;omega
 have HE4':Hid (Eps w.heap.size v4 (qs4.map (·.1)) w4):=HE4.out;have hsrt:=aMV (hsN s n) (fun g=>S g/\g<w.heap.size) w.heap.size w4 v4 qs4 HE4'.out HQ4.out uAu;have HSRT:=iH hsrt;clear hsrt;go_wp2_with (go_at_call 124;(with_reducible refine HSRT.out.mono ?_);rintro r w5 ⟨rfl,qs5,hp5,hs5,hc5,ht5,ha5⟩;have HR5:=iH (And.intro hp5 (And.intro hs5 (And.intro hc5 (And.intro ht5 ha5))));clear hp5 hs5 hc5 ht5 ha5)
 obtain⟨hp5,hs5,hc5,ht5,ha5⟩:=HR5.out;have hlen5:qs5.length=qs4.length:=hp5.length_eq;have hv:∃a c,v4=.slice a qs5.length c/\(∀p,a=some p->p.off=0/\p.spot=none):=by
  obtain⟨⟨_,h2⟩,_⟩:=HE4'.out;rw[aH]at h2;rcases h2 with⟨rfl,h2⟩|⟨g,cap,cur,rfl,_⟩
  ·exact⟨none,0,by rw[hlen5,h2],fun p e=>by cases e⟩
  ·exact⟨_,_,by rw[hlen5],fun p e=>by cases e;exact⟨rfl,rfl⟩⟩
 have hbw5:Below w.heap.size w w5:=(HB1.out.trans HW4.out).trans ha5.below;have hfin:∃(v:Value) (qs:List (Nat×Ent)),Ending.returned v4=.returned v/\qs.map (·.2)=L/\(∀q∈qs,jI (hsN s n) (fun g=>S g/\g<w.heap.size) w5 q.1 q.2)/\LstE w.heap.size w5 v qs/\Below w.heap.size w w5/\w.heap.size+2<=w5.heap.size:=by
  refine⟨v4,qs5,rfl,aIB HL.out.1 ((hp5.map _).trans HP4.out) hs5,fun q hq=> ?_,aNU hv hc5 ht5 (aE _),hbw5,?_⟩
  ·exact(HQ4.out q (hp5.mem_iff.1 hq)).kp (ha5.kp fun g h=>h.2)
  ·have h1:=HSZ3.out
   have h2:=HA4.out.below.size;have h3:=ha5.below.size;omega
 go_ret;exact hfin
end Go.Proofs.YtengibnpebfblaaGreatDoor
namespace Go.Proofs.YtengibnpebfblaaGreatDoor
open Go.RowKit Go.Shelf
attribute [local go_sem] fK
abbrev encM (e:Ent):Array Value:=#[.string e.1,.agg (aX e.2)]
structure aGj (RK IK:Nat->World->World->Prop) (n₀:Nat):Prop where
 new:∀{Y:Nat} {A B:World},Below A.heap.size A B->Y<=A.heap.size->IK Y A B
 low:∀{Y:Nat} {A B:World},RK Y A B->Below n₀ A B
 lists:∀{Y:Nat} {A B:World},RK Y A B->TK 161 A B
theorem aAs {Ts:TypeId->Prop} (n₀:Nat) (h1:¬Ts 161):aGj (fun Y A B=>KW Ts n₀ Y A B) (fun Y A B=>IKW Ts Y A B) n₀ where
 new:=fun h hY=>IKW.below h hY
 low:=fun h=>h.1
 lists:=fun h i cs fr e=>h.2.2.1 i cs _ fr e h1
theorem aDi (n:Nat) (c:Array Value) (w:World):
  CallsIn Fence.wide n Tryz.prog 79 #[.agg c] w fun e w'=>e=.returned (.func (.func 107) #[] #[.pointer (some ⟨w.heap.size,0,none⟩)])/\w'=w.alloc (.cells c 98):=by
 refine iF Tryz.func79 rfl trivial ?_ rfl;simp only[Tryz.ntmps79,cA,aL,bG,Nat.reduceAdd,Nat.reduceSub,bY,bW,cM,cD,bD,bC];gi_wp2
 go_ret;exact⟨rfl,rfl⟩
theorem aHV {RK IK:Nat->World->World->Prop} (Bs n₀:Nat) (hkk:aGj RK IK n₀) (s:Nat) (n:Int) (L:List Ent) (c:Array Value) (w:World) (hn₀:n₀<=w.heap.size) (hX:w.heap[Bs]? =some (.cells c 98 (0,0))) (hv:eQ (fun g=>g<n₀) w s n L c) (hL:iO L) (hN:L.length<=50000) (hT:fW w):
  aIb Tryz.prog 107 #[.pointer (some ⟨Bs,0,none⟩)] encM RK IK (fun ys=>ys=L) (fun pre=>pre<+:L) (fun pre=>pre<+:L) w:=by
 intro l J Jx W hW hA hY h0 m;have hBl:=(gZ hX)
 have HX:=iH ((hW.block _ hBl).trans hX);have hnW:n₀<=W.heap.size:=aG hn₀ hW.size;have HENT:=iH ((cY (n:=m-1)).2 (aH6 W s n L c (hv.kp (Kp.low (hW.mono hn₀) (fun g h=>h))) hL hN (hT.below hW)));have HMS:=iH hv.size;have HJA:=iH hA;have HY:=iH (hY (m-1));have HNW:=iH hnW;have HN:=iH hN;have HKK:=iH hkk;clear hX hv hN hT hA hY hBl hnW hL hkk;refine iF Tryz.func107 rfl trivial ?_ rfl;simp only[Tryz.ntmps107,cA,aL,bG,Nat.reduceAdd,Nat.reduceSub,bY,bW,cM,cD,bD,bC];gi_wp2_with (first
  |(refine yV rfl 98 _ rfl Bs rfl 98 _ _ _ HX.out Tryz.underlying98 rfl (by rw[HMS.out];exact fV) ?_))
 refine⟨trivial,fun h=>absurd h uHz,?_⟩;refine HENT.out.mono ?_;rintro r w1 ⟨v,qs,rfl,hq,he,hl,hb,hsz⟩;obtain⟨a,cp,rfl,hl⟩:=hl;obtain⟨N,hNq⟩:∃N,N=qs.length:=⟨_,rfl⟩
 have hNL:N=L.length:=by rw[hNq,<-hq,aH]
 rw[<-hNq];have HJ1:=iH (HJA.out _ _ _ h0 (HKK.out.new hb (aE _)));have HB1:=iH hb;have HSZ:=iH hsz;have HLL:=iH hl;have HE:=iH he;have HQ:=iH (And.intro hq (And.intro hNq hNL));have hN5:(N:Int)<=50000:=by have:=HN.out;omega
 have HBN:=iH (hb.mono HNW.out);clear h0 hb hsz hl he hq hNq hNL;gi_wp2
 gi_loopw [8] (fun i wr=>∃k:Nat,i=.int .i64 (k:Int)/\k<=N/\Hid (J (L.take k) wr)/\Hid (Below n₀ W wr)/\Hid (TK 161 w1 wr)/\Hid (W.heap.size+2<=wr.heap.size)) (fun i _=>N-(intOf i).toNat)
 case atStart=>exact⟨0,rfl,aQ _,(by simpa using HJ1),HBN,TK.refl _ _,HSZ⟩
 case round=>
  obtain⟨k,rfl,hk,HJK,HBK,HTK,HSK⟩:=hrel;by_cases hlt:k<N
  ·obtain⟨hq,hNq,hNL⟩:=HQ.out
   obtain⟨g,cur,rfl,hg,hcur,hcc⟩:=HLL.out uAu;have hkq:k<qs.length:=by omega
   have hkL:k<L.length:=by omega
   have hLk:L[k]=qs[k].2:=by
    have e:(qs.map (·.2))[k]? =L[k]? :=by rw[hq]
    rw[List.getElem?_map,List.getElem?_eq_getElem hkq,List.getElem?_eq_getElem hkL]at e;exact(aN e).symm
   obtain⟨⟨hbn,hbW⟩,fr,hbl⟩:=HE.out _ (aO hkq);have hbr:wr.heap[qs[k].1]? =some (.cells (aEi (hsN s n) qs[k].2) 163 fr):=(HBK.out.block _ hbn).trans ((HB1.out.block _ hbW).symm.trans hbl);have hcg:wr.cell? ⟨g,k,none⟩=some (pv (some qs[k].1)):=aK (HTK.out _ _ _ hcur) (hcc k uAu);have HTAKE:=iH (aS hkL);have HYK:=iH (HY.out (L.take k) L[k] wr.drew (HJA.out _ _ _ HJK.out (HKK.out.new (bE wr) (by have:=HSK.out;omega))) (by have:=HSK.out;show _<=wr.heap.size;omega) (by rw[<-aS hkL];exact tC _ _));rw[hLk]at HYK HTAKE;obtain⟨⟨b,e⟩,hbe⟩:∃q,q=qs[k]:=⟨_,rfl⟩
   rw[<-hbe]at HYK HTAKE hbr hcg;have ce0:wr.drew.cell? ⟨b,0,none⟩=some (.string e.1):=aK hbr rfl;have ce2:wr.drew.rangeAt b 2 (enV e.2):=aDl (W:=wr.drew) hbr;have HCE:=iH (And.intro ce0 ce2);have hlt':(k:Int)<N:=by omega
   have HLT:=iH hlt;unfold pv at hcg;clear hbe hbr hbl hbn hbW hLk hkq hkL hcur hcc hg hq hNq hNL ce0 ce2;gi_wp2
   refine wJ (S:=fun V=>V.cell? ⟨b,0,none⟩=some (.string e.1)/\V.rangeAt b 2 (enV e.2)) [9,10] hO HCE.out (fun hHeld=> ?_);refine gI (i:=0) (oi:=⟨some 12,_,_,_,_,_⟩) (v:=?v0) rfl hO hO hO hO (fun _ _ _ h=>h) (Or.inl ⟨by rfl,?h0⟩) uAx ?r0
   case h0=>(intro w hSw;(try dsimp only at hSw);first|(go_simp;done)|(go_simp;with_reducible rfl))
   (try simp only[pq]);refine gI (i:=1) (oi:=⟨some 13,_,_,_,_,_⟩) (v:=?v1) rfl hO hO hO hO (fun _ _ _ h=>h) (Or.inl ⟨by rfl,?h1⟩) uAx ?r1
   case h1=>(intro w hSw;(try dsimp only at hSw);first|(go_simp;done)|(go_simp;with_reducible rfl))
   (try simp only[pq]);refine gI (i:=2) (oi:=⟨some 14,_,_,_,_,_⟩) (v:=?v2) rfl hO hO hO hO (fun _ _ _ h=>h) (Or.inl ⟨by rfl,?h2⟩) uAx ?r2
   case h2=>(intro w hSw;(try dsimp only at hSw);first|(go_simp;done)|(go_simp;with_reducible rfl))
   (try simp only[pq]);refine gI (i:=3) (oi:=⟨some 15,_,_,_,_,_⟩) (v:=?v3) rfl hO hO hO hO (fun _ _ _ h=>h) (Or.inl ⟨by rfl,?h3⟩) uAx ?r3
   case h3=>(intro w hSw;(try dsimp only at hSw);first|(go_simp;done)|(go_simp;with_reducible rfl))
   (try simp only[pq]);refine gI (i:=4) (oi:=⟨some 16,_,_,_,_,_⟩) (v:=?v4) rfl hO hO hO hO (fun _ _ _ h=>h) (Or.inl ⟨by rfl,?h4⟩) uAx ?r4
   case h4=>(intro w hSw;(try dsimp only at hSw);first|(go_simp;done)|(go_simp;with_reducible rfl))
   (try simp only[pq]);refine gI (i:=5) (oi:=⟨some 17,_,_,_,_,_⟩) (v:=?v5) rfl hO hO hO hO (fun _ _ _ h=>h) (Or.inl ⟨by rfl,?h5⟩) uAx ?r5
   case h5=>(intro w hSw;(try dsimp only at hSw);first|(go_simp;done)|(go_simp;with_reducible rfl))
   (try simp only[pq]);refine gI (i:=6) (oi:=⟨some 18,_,_,_,_,_⟩) (v:=?v6) rfl hO hO hO hO (fun _ _ _ h=>h) (Or.inl ⟨by rfl,?h6⟩) uAx ?r6
   case h6=>(intro w hSw;(try dsimp only at hSw);first|(go_simp;done)|(go_simp;with_reducible rfl))
   (try simp only[pq]);refine gI (i:=7) (oi:=⟨some 19,_,_,_,_,_⟩) (v:=?v7) rfl hO hO hO hO (fun _ _ _ h=>h) (Or.inl ⟨by rfl,?h7⟩) uAx ?r7
   case h7=>(intro w hSw;(try dsimp only at hSw);first|(go_simp;done)|(go_simp;with_reducible rfl))
   (try simp only[pq]);refine gI (i:=8) (oi:=⟨some 20,_,_,_,_,_⟩) (v:=_) rfl hO hO hO hO (fun _ _ _ h=>h) (bT uAz 35 _ rfl b 2 rfl (aX e.2) _ (fun w hw=>hw.2) Tryz.underlying35 rfl aR) uAx ?_;(try simp only[pq]);obtain⟨fn,tmps,assign,body,hy,hR⟩:=HYK.out;unfold encM at hy;(try dsimp only at hy);refine mS (i:=9) (o:=⟨some 21,_,_,_,_,_⟩) hO uAv rfl (fun K hK=> ?_);rw[if_pos uAz];go_simp;refine⟨fun h=>absurd h uHz,?_⟩;refine hR.mono ?_;rintro e' W3 (⟨rfl,hJ3,hk3⟩|⟨rfl,hJx3⟩)
   ·have HJ3:=iH hJ3
    have HK3:=iH hk3;refine hK.out _ _ ?_;clear hK K hR hy hJ3 hk3;(try simp only[pq]);refine mS (i:=10) (o:=⟨some 22,_,_,_,_,_⟩) hO uAv rfl (fun K hK=> ?_);rw[if_pos uAz];go_simp;refine hK.out _ _ ?_;clear hK K;(try simp only[pq]);refine qW hO ?_ _;gi_wp2
    go_roundw
    case rel=>
     have h1:=HKK.out.low HK3.out;have h4:=HKK.out.lists HK3.out;refine⟨k+1,by simp,by have:=HLT.out;omega,?_,HBK.out.trans (((bE wr).mono (by have:=HNW.out;have:=HSK.out;omega)).trans h1),HTK.out.trans (fun i cs fr h=>h4 i cs fr h),aG HSK.out h1.size⟩;rw[HTAKE.out];exact HJ3
    case measure=>have:=HLT.out;simp[intOf];omega
   ·have HJ3:=iH hJx3
    refine hK.out _ _ ?_;clear hK K hR hy hJx3;(try simp only[pq]);refine mS (i:=10) (o:=⟨some 22,_,_,_,_,_⟩) hO uAv rfl (fun K hK=> ?_);rw[if_pos uAz];go_simp;refine hK.out _ _ ?_;clear hK K;(try simp only[pq]);refine qW hO ?_ _;gi_wp2
    refine bF (rH rfl _ _ _) rfl ?_;refine⟨⟨_,rfl⟩,.inr ⟨_,?_,HJ3.out⟩⟩;rw[<-HTAKE.out];exact tC _ _
  ·obtain rfl:k=N:=by omega
   have e:L.take k=L:=aZ (by have:=HQ.out.2.2;omega);rw[e]at HJK;clear e;gi_wp2
   go_end0;exact⟨⟨_,rfl⟩,.inl ⟨_,rfl,HJK.out⟩⟩
end Go.Proofs.YtengibnpebfblaaGreatDoor
namespace Go.Proofs.YtengibnpebfblaaGreatDoor
open Go.RowKit
def rQ (l:List Cel) (i:Nat) (x:Cel):List Cel:=l.take i++x::l.drop i
theorem aBQ {l:List Cel} {i:Nat} {x:Cel}:(rQ l i x).length=l.length+1:=by
 unfold rQ;rw[aD,aL,aV,bS];omega
theorem aLc {A B C:List Cel} {r:Nat} {x:Cel} (hr:r<=B.length):rQ (A++B++C) (A.length+r) x=A++rQ B r x++C:=by
 unfold rQ;rw[bN A B C,List.take_append,aZ uAu,aAI,eD uAu,mA,mL hr,List.drop_append_of_le_length hr];simp
def aNl (hv:Nat):Prop:=∀(S:Nat->Prop) (W:World) (b:Value) (l:List Cel) (i:Nat) (x:Cel),dP S W 35 4 b (ivV l) l.length->l.length<=16->i<=l.length->
  Calls Tryz.prog 84 #[.agg #[.int .i64 (l.length:Int),.int .i64 (hv:Int),.slice none 0 0,b],.int .i64 (i:Int),.agg (aX x)] W fun e W'=>∃v,e=.returned v/\∃ks,jH (fun g=>W.heap.size<=g) W' 0 v ks/\eV ks=rQ l i x/\Fit (l.length+1) ks/\Below W.heap.size W W'
def aAZ (h:Nat):Prop:=∀(S:Nat->Prop) (W:World) (p:Kid) (i:Nat) (x:Cel) (m:Nat),fD S W h p->i<=p.l.length->p.l.length<=50000->m<=8->m<=p.k->
  Calls Tryz.prog 84 #[.agg (iC h p).toArray,.int .i64 (i:Int),.agg (aX x)] W fun e W'=>∃v,e=.returned v/\∃ks,jH (fun g=>S g\/W.heap.size<=g) W' h v ks/\eV ks=rQ p.l i x/\(1<=ks.length/\ks.length<=2)/\
   (∀y∈ks,m<=y.k/\(2<=ks.length->8<=y.k))/\Below W.heap.size W W'
theorem aFN (hv:Nat):aNl hv:=by
 intro S W b l i x hb hl hi;obtain⟨q,c,rfl,_⟩:=hb.shape;obtain⟨w2,hw2⟩:∃w2,(W.alloc (.cells #[.int .i64 (l.length:Int),.int .i64 (hv:Int),.slice none 0 0,.slice q l.length c] 86)).alloc (.cells (aX x) 35)=w2:=⟨_,rfl⟩
 obtain⟨hb2,hx2,hv2,hs2⟩:=eR hw2;have HB2:=iH hb2;have ca2:w2.cell? ⟨W.heap.size,2,none⟩=some (.slice none 0 0):=aK hx2 rfl;have HK2:Hid (w2.drew.cell? ⟨W.heap.size,3,none⟩=some (.slice q l.length c)/\w2.drew.heap[W.heap.size+1]? =some (.cells (aX x) 35 (0,0))):=⟨aK (W:=w2) hx2 rfl,hv2⟩
 have hcut:=hb.cut.weak (S':=fun _=>True) (fun _ _=>trivial);obtain⟨a1,c1,hc1,hr1⟩:=aC3 52 aK2 aDK hcut (hi:=i) hi;obtain⟨a2,c2,hc2,hr2⟩:=uW 52 aK2 aDK hcut (lo:=i) hi;rw[zF vT]at hc1;rw[tS vT]at hc2;have HC1:Hid (bZ (fun _=>True) W 4 (.slice a1 i c1) (ivV (l.take i)) (l.take i).length):=by
  show bZ _ _ _ _ _ _;rwa[show(l.take i).length=i by rw[aV];omega]
 have HC2:Hid (bZ (fun _=>True) W 4 (.slice a2 (l.length-i) c2) (ivV (l.drop i)) (l.drop i).length):=by
  show bZ _ _ _ _ _ _;rwa[show(l.drop i).length=l.length-i by rw[bS]]
 have HL:=iH hl;have hnil:=aGU;clear hb hl hi hb2 hx2 hv2 hs2 hcut hc1 hc2;go_enter Tryz.func84,Tryz.ntmps84;go_upto_region 1 with fail
 clear hw2;go_upto_region 2 with fail
 refine bL (S:=fun V=>V.cell? ⟨W.heap.size,3,none⟩=some (.slice q l.length c)/\V.heap[W.heap.size+1]? =some (.cells (aX x) 35 (0,0))) [12] hO uDy (fun hHeld=> ?_);refine tkA 0 11 (h:=?_);refine tkA 1 12 (h:=?_);(try simp only[pq]);refine tkA 2 13 (h:=?_);refine tkA 3 14 (h:=?_);(try simp only[pq]);refine tyA 4 15 (hy:=aP uAz 35 _ rfl (W.heap.size+1) rfl (aX x) 35 (0,0) _ (fun w hw=>hw.2) Tryz.underlying35 rfl aR) (h:=?_);refine tkA 6 17 (h:=?_);(try simp only[pq]);refine tkA 7 18 (h:=?_);refine tkA 8 19 (h:=?_);(try simp only[pq]);refine tkA 9 20 (h:=?_);(try simp only[pq]);refine tkO 5 (some 16) (h:=fun K hK=> ?_);refine sR 52 35 _ rfl (aX x) 4 (.agg (aX gT)) rfl rfl uAv uAv Tryz.underlying52 hO ?_;intro w3 h3 hb3 hs3;have HK3:=iH (show _/\_ from⟨((hb3).cell (p:=⟨W.heap.size,3,none⟩) (aM _ _ HK2.out.1)).trans HK2.out.1,kW hb3 HK2.out.2⟩);have HO3:Hid (bZ (fun _=>True) w3 4 (.slice (some ⟨w2.drew.heap.size,0,none⟩) 1 1) (ivV [x]) 1):=⟨_,1,rfl,aE _,rfl,.inr ⟨_,0,rfl,trivial,by omega,fun j u hu=>by rw[dL];exact aK h3 uKx⟩⟩
 have HB3:Hid (Below W.heap.size W w3):=HB2.out.trans ((bE w2|>.trans hb3).mono HB2.out.size);clear hb3 h3 hs3;(try dsimp only);refine hK.out _ _ uDy (fun hHeld=> ?_);clear hK K;(try simp only[pq]);refine tkO 10 (some 21) (h:=fun K hK=> ?_);go_simp;have hb4:=Below.newly' w3 (.cells #[.slice a1 i c1,.slice (some ⟨w2.drew.heap.size,0,none⟩) 1 1,.slice a2 (l.length-i) c2] 52);have HK4:=iH (show _/\_ from⟨((hb4).cell (p:=⟨W.heap.size,3,none⟩) (aM _ _ HK3.out.1)).trans HK3.out.1,kW hb4 HK3.out.2⟩);clear hb4;(try dsimp only);refine hK.out _ _ uDy (fun hHeld=> ?_);clear hK K;(try simp only[pq]);refine tkO 11 (some 22) (h:=fun K hK=> ?_);go_simp;go_at_call 110;refine(aBJ (S:=fun _=>True) w3 [(.slice a1 i c1,l.take i),(.slice (some ⟨w2.drew.heap.size,0,none⟩) 1 1,[x]),(.slice a2 (l.length-i) c2,l.drop i)] ?_ (rQ l i x) (by simp[eZ,rQ]) (by rw[aBQ];have:=HL.out;omega) uBu).mono ?_
 ·intro y hy
  simp only[bA,gX,wV]at hy;rcases hy with rfl|rfl|rfl
  ·exact HC1.out.later HB3.out
  ·exact HO3.out
  ·exact HC2.out.later HB3.out
 rintro e w5 ⟨v5,rfl,kn,hn5,hc5,hf5,hb5⟩;have HK5:=iH (show _/\_ from⟨((hb5).cell (p:=⟨W.heap.size,3,none⟩) (aM _ _ HK3.out.1)).trans HK3.out.1,kW hb5 HK3.out.2⟩);have HN5:=iH hn5;have HC5:=iH hc5;have HF5:=iH hf5;have HB5:=iH (tW HB3.out hb5);clear hb5 hn5 hc5 hf5;(try dsimp only);refine hK.out _ _ uDy (fun hHeld=> ?_);clear hK K;(try simp only[pq]);refine tkU 12 (some 6) (h:=fun K hK=> ?_);go_simp;refine hK.out _ _ ?_;clear hK K;(try simp only[pq]);refine bK hO ?_ _;go_wp2_with fail
 go_ret;refine⟨_,rfl,kn,HN5.out.weak fun g hg=>aG HB3.out.size hg,HC5.out,?_,HB5.out⟩;have hf:=HF5.out;rwa[aBQ]at hf
theorem aJf (h:Nat) (ih:aAZ h):aAZ (h+1):=by
 intro S W p i x m hp hi hN hm8 hm;obtain⟨w2,hw2⟩:∃w2,(W.alloc (.cells (iC (h+1) p).toArray 86)).alloc (.cells (aX x) 35)=w2:=⟨_,rfl⟩
 obtain⟨hb2,hx2,hv2,hs2⟩:=eR hw2;have HV2:=iH hv2;have HB2:=iH hb2;have HX2:=iH hx2;have HS2:=iH hs2;obtain⟨hpb,hk1,hk16,ks,hh,hkl,hl,hks⟩:=hp;obtain⟨n,hn⟩:∃n,n=p.k:=⟨_,rfl⟩
 rw[<-hn]at hk1 hk16 hh hkl hm;have HWAY:=iH (aKi w2 h n i p ks (hh.later hb2) hkl hk1 hk16 uSv uSv);have HHO:=iH hh.cut;obtain⟨g,c,cur,fr,hpa,hcap,hS,hg,hcs⟩:=hh.pos hk1;rw[hpa]at HHO;have ca2:w2.cell? ⟨W.heap.size,2,none⟩=some (.slice (some ⟨g,0,none⟩) n c):=by rw[<-hpa];exact aK hx2 rfl
 have HRG:Hid (∀k (hk:k<ks.length),w2.rangeAt g (k*4) (iC h ks[k])):=fun k hk=>mU (sK (h:=h) hg hcs hk) hb2
 have HP:=iH (And.intro hk1 (And.intro hk16 (And.intro hkl (And.intro hl (And.intro hi (And.intro hm8 hm))))));have HKS:=iH hks;have HLN:=iH hN;have hnil:=fun w=>aGT ⟨g,0,none⟩ n c w
 have hn16:(n:Int)<=16:=by omega
 clear hb2 hx2 hv2 hs2 hpb hk1 hk16 hh hkl hl hks hn hpa hcap hS hg hcs hi hN hm8 hm;go_enter Tryz.func84,Tryz.ntmps84;go_upto_region 1 with fail
 clear hw2;go_upto_region 4 with(first
  |(refine bR rfl 86 _ rfl W.heap.size rfl 86 _ _ _ HX2.out Tryz.underlying86 rfl dY ?_)
  |(go_at_call 111;refine HWAY.out.mono ?_;rintro e w3 ⟨k,r,rfl,hwy,hb3⟩;have HWYY:=iH hwy;have HBB3:=iH hb3;clear hwy hb3))
 obtain⟨hkk,hir,hr1,hr2⟩:=HWYY.out;have hpp:=HP.out;have hb3:Below w2.heap.size w2 w3.drew:=HBB3.out.trans ((bE w3).mono HBB3.out.size);have HK3:Hid (w3.drew.cell? ⟨W.heap.size,2,none⟩=some (.slice (some ⟨g,0,none⟩) n c)/\w3.drew.rangeAt g (k*4) (iC h ks[k])/\w3.drew.heap[W.heap.size+1]? =some (.cells (aX x) 35 (0,0))):=
  ⟨(hb3.cell (p:=⟨W.heap.size,2,none⟩) (aM _ _ ca2)).trans ca2,mU (HRG.out k hkk) hb3,(hb3.block _ uBw).trans HV2.out⟩
 have HB3:=iH (tW HB2.out hb3);have HBW3:Hid (W.heap.size<=w3.drew.heap.size):=HB3.out.size;have hyl:ks[k].l.length<=p.l.length:=by
  have h1:=bH List.length (sO hkk);rw[aD,aD,<-hpp.2.2.2.1]at h1;omega
 have HREC:=iH (ih (fun g=>S g/\g<W.heap.size) w3.drew ks[k] r x 8 ((HKS.out _ (aO hkk)).2.old.later HB3.out) hr1 uIv (aE _) (HKS.out _ (aO hkk)).1);obtain⟨k1,hk1⟩:∃k1,k1=k+1:=⟨_,rfl⟩
 have HCAT:Hid (rQ p.l i x=eV (ks.take k)++rQ ks[k].l r x++eV (ks.drop k1)):=by
  show _=_;rw[hpp.2.2.2.1,hir,sO hkk,hk1];exact aLc hr1
 obtain⟨a1,c1,hc1,hrun1⟩:=aC3 84 aK9 aDO HHO.out (hi:=k) uAu;have hkw:IntKind.i64.wrap ((k:Int)+1)=(k1:Int):=by rw[gE];omega
 obtain⟨a2,c2,hc2,hrun2⟩:=uW 84 aK9 aDO HHO.out (lo:=k1) uAu;rw[zF (uS h)]at hc1;rw[tS (uS h)]at hc2;have HC1:Hid (bZ S W 4 (.slice a1 k c1) (en (iC h) (ks.take k)) (ks.take k).length):=by
  show bZ _ _ _ _ _ _;rwa[show(ks.take k).length=k by rw[aV];omega]
 have HC2:Hid (bZ S W 4 (.slice a2 (n-k1) c2) (en (iC h) (ks.drop k1)) (ks.drop k1).length):=by
  show bZ _ _ _ _ _ _;rwa[show(ks.drop k1).length=n-k1 by rw[bS];omega]
 have HXL:Hid (∀k4:List Kid,(ks.take k++(k4++ks.drop k1)).length=n-1+k4.length):=by
  intro k4;rw[aD,aD,aV,bS];omega
 obtain⟨y,hy⟩:∃y,y=ks[k]:=⟨_,rfl⟩
 rw[<-hy]at HK3 HREC HCAT;have hkn:(k:Int)<(n:Int):=by omega
 have hkn':k<n:=by omega
 clear hkk hir hr1 hr2 hpp hb3 hyl hy ca2 hc1 hc2 hk1;refine bL (S:=fun V=>V.cell? ⟨W.heap.size,2,none⟩=some (.slice (some ⟨g,0,none⟩) n c)/\V.rangeAt g (k*4) (iC h y)/\V.heap[W.heap.size+1]? =some (.cells (aX x) 35 (0,0))) [19] hO uDz (fun hHeld=> ?_);refine tkA 0 29 (h:=?_);refine tkA 1 30 (h:=?_);(try simp only[pq]);refine tkA 2 31 (h:=?_);refine tkA 3 32 (h:=?_);(try simp only[pq]);refine tkA 4 33 (h:=?_);refine tkA 5 34 (h:=?_);(try simp only[pq]);refine tkA 6 35 (h:=?_);refine tkA 7 36 (h:=?_);(try simp only[pq]);refine tyA 8 37 (hy:=yieldsIf_load_mid uAz 86 _ rfl g (k*4) rfl (iC h y) _ (fun w hw=>hw.2.1) Tryz.underlying86 rfl dY) (h:=?_);refine tkA 9 38 (h:=?_);(try simp only[pq]);refine tyA 10 39 (hy:=aP uAz 35 _ rfl (W.heap.size+1) rfl (aX x) 35 (0,0) _ (fun w hw=>hw.2.2) Tryz.underlying35 rfl aR) (h:=?_);refine tkA 12 41 (h:=?_);(try simp only[pq]);refine tkA 13 42 (h:=?_);refine tkA 14 43 (h:=?_);(try simp only[pq]);refine tkA 15 44 (h:=?_);refine tkA 16 45 (h:=?_);(try simp only[pq]);refine tkO 11 (some 40) (h:=fun K hK=> ?_);go_simp;go_at_call 84;refine HREC.out.mono ?_;rintro e w4 ⟨v4,rfl,k4,hn4,hc4,hl4,hx4,hb4⟩;obtain⟨a4,n4,rfl,_⟩:=hn4.1.shape;have HK4:=iH (show _/\_/\_ from⟨((hb4).cell (p:=⟨W.heap.size,2,none⟩) (aM _ _ HK3.out.1)).trans HK3.out.1,mU HK3.out.2.1 hb4,kW hb4 HK3.out.2.2⟩);have HB4:=iH (tW HB3.out hb4);have HN4:=iH hn4;have HC4:=iH hc4;have HL4:=iH (And.intro hl4 hx4);clear hb4 hn4 hc4 hl4 hx4;(try dsimp only);refine hK.out _ _ uDz (fun hHeld=> ?_);clear hK K;(try simp only[pq]);refine tkO 17 (some 46) (h:=fun K hK=> ?_);go_simp;have hb5:=Below.newly' w4 (.cells #[.slice a1 k c1,.slice a4 k4.length n4,.slice a2 (n-k1) c2] 84)
 have HK5:=iH (show _/\_/\_ from⟨((hb5).cell (p:=⟨W.heap.size,2,none⟩) (aM _ _ HK4.out.1)).trans HK4.out.1,mU HK4.out.2.1 hb5,kW hb5 HK4.out.2.2⟩);clear hb5;(try dsimp only);refine hK.out _ _ uDz (fun hHeld=> ?_);clear hK K;(try simp only[pq]);refine tkO 18 (some 47) (h:=fun K hK=> ?_);go_simp;go_at_call 109;refine(aH1 (S:=fun g=>S g\/W.heap.size<=g) w4 h [(.slice a1 k c1,ks.take k),(.slice a4 k4.length n4,k4),(.slice a2 (n-k1) c2,ks.drop k1)] ?_ (ks.take k++(k4++ks.drop k1)) (by simp[eZ]) ?_ ?_ uBu).mono ?_
 ·intro z hz
  have hbw:=HBW3.out;simp only[bA,gX,wV]at hz;rcases hz with rfl|rfl|rfl
  ·exact((HC1.out.later HB4.out).weak fun g hg=>.inl hg)
  ·exact HN4.out.1.weak fun g hg=>hg.imp (fun h=>h.1) fun h=>aG hbw h
  ·exact((HC2.out.later HB4.out).weak fun g hg=>.inl hg)
 ·intro z hz
  have hbw:=HBW3.out;rcases cP.1 hz with hz|hz
  ·exact⟨(HKS.out z (dI hz)).1,((HKS.out z (dI hz)).2.later HB4.out).weak fun g hg=>.inl hg⟩
  ·rcases cP.1 hz with hz|hz
   ·exact⟨(HL4.out.2 z hz).1,(HN4.out.2 z hz).weak fun g hg=>hg.imp (fun h=>h.1) fun h=>aG hbw h⟩
   ·exact⟨(HKS.out z (gY hz)).1,((HKS.out z (gY hz)).2.later HB4.out).weak fun g hg=>.inl hg⟩
 ·rw[kT,kT,HC4.out,<-bN,<-HCAT.out,aBQ]
  have:=HLN.out;omega
 rintro e w6 ⟨v6,rfl,kn,hn6,hc6,hf6,hb6⟩;have HK6:=iH (show _/\_/\_ from⟨((hb6).cell (p:=⟨W.heap.size,2,none⟩) (aM _ _ HK4.out.1)).trans HK4.out.1,mU HK4.out.2.1 hb6,kW hb6 HK4.out.2.2⟩);have HN6:=iH hn6;have HC6:=iH hc6;have HF6:=iH hf6;have HB6:=iH (tW HB4.out hb6);clear hb6 hn6 hc6 hf6;(try dsimp only);refine hK.out _ _ uDz (fun hHeld=> ?_);clear hK K;(try simp only[pq]);refine tkU 19 (some 6) (h:=fun K hK=> ?_);go_simp;refine hK.out _ _ ?_;clear hK K;(try simp only[pq]);refine bK hO ?_ _;go_wp2_with fail
 go_ret;obtain⟨k1,k2,k3,k4',k5,k6,k7⟩:=HP.out;have hl4:=HL4.out.1;have hf:=HF6.out;rw[HXL.out k4]at hf;have he:=aFU hf uAu uAu k6 uAu;refine⟨_,rfl,kn,HN6.out.weak fun g hg=>hg.elim id fun h=>.inr (aG HB4.out.size h),?_,he.1,he.2,HB6.out⟩;rw[HC6.out,kT,kT,HC4.out,HCAT.out,bN]
theorem aL9:aAZ 0:=by
 intro S W p i x m hp hi hN hm8 hm;obtain⟨hpa,hpk,hp1,hp16,hph⟩:=hp;rw[hpk]at hph;have h:=aFN 1 S W p.b p.l i x hph uAu hi;have e:((iC 0 p).toArray:Array Value)=#[.int .i64 (p.l.length:Int),.int .i64 ((1:Nat):Int),.slice none 0 0,p.b]:=by simp[iC,hpa]
 rw[e];refine h.mono ?_;rintro e W' ⟨v,rfl,ks,h1,h2,h3,h4⟩;have he:=aFU h3 uAu uAu hm8 uAu;exact⟨v,rfl,ks,h1.weak fun g hg=>.inr hg,h2,he.1,he.2,h4⟩
theorem aCQ:∀h,aAZ h
 |0=>aL9
 |h+1=>aJf h (aCQ h)
def yY (acc:List Ent) (Z:List Ent):List Ent:=Z.foldl (fun L e=>lD L e.1 e.2) acc
theorem aA5 (acc:List Ent) (e:Ent) (Z:List Ent):yY acc (e::Z)=yY (lD acc e.1 e.2) Z:=rfl
theorem aJg (acc:List Ent) (Z:List Ent) (e:Ent):yY acc (Z++[e])=lD (yY acc Z) e.1 e.2:=by
 unfold yY;rw[nO];rfl
theorem aDg:∀(Z acc:List Ent),iO acc->iO (yY acc Z)
 |[],_,h=>h
 |e::Z,_,h=>by
  rw[aA5];exact aDg Z _ (h.ins _ _)
theorem yZ {L:List Ent} {k:ByteArray}:(gL L k).isSome=true↔∃e∈L,e.1=k:=by
 cases h:gL L k with
 |none=>
  rw[zB]at h;simp only[Option.isSome_none,Bool.false_eq_true,false_iff];rintro⟨e,he,rfl⟩;exact h e he rfl
 |some x=>
  simp only[Option.isSome_some,true_iff];refine fE fun hn=> ?_
  have:gL L k=none:=zB.2 fun e he he'=>hn ⟨e,he,he'⟩
  rw[h]at this;cases this
theorem tP {L:List Ent} {j k:ByteArray} {x:Cel}:(gL (lD L k x) j).isSome=true↔j=k\/(gL L j).isSome=true:=by
 rw[yZ,yZ];constructor
 ·rintro⟨e,he,rfl⟩
  rcases vO.1 he with rfl|⟨h,_⟩
  ·exact .inl rfl
  ·exact .inr ⟨e,h,rfl⟩
 ·rintro(rfl|⟨e,he,rfl⟩)
  ·exact⟨(j,x),vO.2 (.inl rfl),rfl⟩
  ·by_cases hk:e.1=k
   ·exact⟨(k,x),vO.2 (.inl rfl),hk.symm⟩
   ·exact⟨e,vO.2 (.inr ⟨he,hk⟩),rfl⟩
theorem aFQ:∀(Z acc:List Ent),iO acc->(yY acc Z).length<=acc.length+Z.length/\((yY acc Z).length=acc.length+Z.length↔(Z.map (·.1)).Nodup/\∀e∈Z,(gL acc e.1).isSome=false)
 |[],acc,_=>by simp[yY]
 |e::Z,acc,h=>by
  obtain⟨h1,h2⟩:=aFQ Z _ (h.ins e.1 e.2);have h3:=aAV h e.1 e.2;rw[aA5,aL,cG,List.nodup_cons];by_cases hs:(gL acc e.1).isSome=true
  ·rw[if_pos hs]at h3
   refine⟨by omega,⟨fun h4=>by omega,fun h4=> ?_⟩⟩;have:=h4.2 e (aW ..);rw[hs]at this;cases this
  ·rw[if_neg hs]at h3
   refine⟨by omega,?_⟩;have e1:(yY (lD acc e.1 e.2) Z).length=acc.length+(Z.length+1)↔(yY (lD acc e.1 e.2) Z).length=(lD acc e.1 e.2).length+Z.length:=by rw[h3];omega
   rw[e1,h2];constructor
   ·rintro⟨a1,a2⟩
    refine⟨⟨fun hm=> ?_,a1⟩,fun x hx=> ?_⟩
    ·obtain⟨x,hx,hxe⟩:=cH.1 hm
     have:=a2 x hx;rw[iM]at this;exact this (tP.2 (.inl hxe))
    ·rcases bA.1 hx with rfl|hx
     ·simpa using hs
     ·have:=a2 x hx
      rw[iM]at this ⊢;exact fun h'=>this (tP.2 (.inr h'))
   ·rintro⟨⟨a1,a2⟩,a3⟩
    refine⟨a2,fun x hx=> ?_⟩;rw[iM];intro h';rcases tP.1 h' with h'|h'
    ·exact a1 (cH.2 ⟨x,hx,h'⟩)
    ·have:=a3 x (aU _ hx)
     rw[h']at this;cases this
theorem aFP:∀(Z acc:List Ent),(Z.map (·.1)).Nodup->(∀e∈Z,∀d∈acc,d.1≠e.1)->∀e,e∈yY acc Z↔e∈acc\/e∈Z
 |[],acc,_,_,e=>by simp[yY]
 |d::Z,acc,hn,ha,e=>by
  rw[cG,List.nodup_cons]at hn;rw[aA5,aFP Z _ hn.2 (fun x hx y hy=> ?_),vO,bA]
  ·constructor
   ·rintro((h|h)|h)
    ·exact .inr (.inl h)
    ·exact .inl h.1
    ·exact .inr (.inr h)
   ·rintro(h|h|h)
    ·exact .inl (.inr ⟨h,ha d (aW ..) e h⟩)
    ·exact .inl (.inl h)
    ·exact .inr h
  ·rcases vO.1 hy with rfl|⟨hy,_⟩
   ·intro h
    exact hn.1 (cH.2 ⟨x,hx,h.symm⟩)
   ·exact ha x (aU _ hx) y hy
def wG (Z:List Ent):List Ent:=yY [] Z
abbrev kbE (e:Ent):List UInt8:=kb e.1
theorem aA4 (Z:List Ent):iO (wG Z):=aDg Z [] iO.nil
theorem aBP (Z:List Ent):(wG Z).length<=Z.length/\((wG Z).length=Z.length↔(Z.map (·.1)).Nodup):=by
 obtain⟨h1,h2⟩:=aFQ Z [] iO.nil;simp only[bG,dL]at h1 h2;refine⟨h1,h2.trans ⟨fun h=>h.1,fun h=>⟨h,fun e _=> ?_⟩⟩⟩;simp[gL]
theorem aFO {Z:List Ent} (h:(Z.map (·.1)).Nodup):wG Z=lJ kbE Z:=by
 have hk:(Z.map kbE).Nodup:=by
  have:=yR.2 h;rwa[kC]at this
 have h1:qR kbE (lJ kbE Z):=rW hk;refine aKr (aA4 Z) h1 fun e=> ?_
 rw[(jG (f:=kbE) Z).mem_iff];exact(aFP Z [] h (fun _ _ _ hd=>(by cases hd)) e).trans uBu
theorem aGA {β γ:Type} (p:γ->Bool) (g:β->γ):∀l:List β,(l.map g).takeWhile p=(l.takeWhile (p∘g)).map g/\(l.map g).dropWhile p=(l.dropWhile (p∘g)).map g
 |[]=>⟨rfl,rfl⟩
 |a::l=>by
  obtain⟨h1,h2⟩:=aGA p g l;rw[cG,eX,vF,eX,vF];by_cases h:p (g a)=true
  ·rw[if_pos h,if_pos h,if_pos (show(p∘g) a=true from h),if_pos (show(p∘g) a=true from h),h1,h2]
   exact⟨rfl,rfl⟩
  ·rw[if_neg h,if_neg h,if_neg (show¬(p∘g) a=true from h),if_neg (show¬(p∘g) a=true from h)]
   exact⟨rfl,rfl⟩
theorem aKA {β γ:Type} (g:β->γ) (f:γ->List UInt8) (l:List β) (x:β):tI f (l.map g) (g x)=(tI (fun y=>f (g y)) l x).map g:=by
 unfold tI;obtain⟨h1,h2⟩:=aGA (fun y=>decide (f y<f (g x))) g l;rw[h1,h2,bQ,cG];rfl
theorem aAS {β γ:Type} (g:β->γ) (f:γ->List UInt8) (l:List β):lJ f (l.map g)=(lJ (fun y=>f (g y)) l).map g:=by
 unfold lJ;have:∀(l acc:List β),(l.map g).foldl (tI f) (acc.map g)=(l.foldl (tI fun y=>f (g y)) acc).map g:=by
  intro l;induction l with
  |nil=>intro acc;rfl
  |cons a l ih=>
   intro acc;rw[cG,gN,gN,aKA,ih]
 exact this l []
def wO (ks:List ByteArray) (xs:List Tr) (l:List Cel):List (ByteArray×Tr×Cel):=lJ (fun p=>kb p.1) (ks.zip (xs.zip l))
theorem aGF (ks:List ByteArray) (xs:List Tr) (l:List Cel) (hl:l.length=xs.length):lJ kbF (ks.zip xs)=(wO ks xs l).map fun p=>(p.1,p.2.1):=by
 have e:ks.zip xs=(ks.zip (xs.zip l)).map fun p=>(p.1,p.2.1):=by
  have h:=oD xs l uAu
  exact Aj4
 rw[e,aAS];rfl
theorem aIF (ks:List ByteArray) (xs:List Tr) (l:List Cel) (hl:l.length=xs.length) (hk:ks.length=xs.length) (hn:ks.Nodup):wG (ks.zip l)=(wO ks xs l).map fun p=>(p.1,p.2.2):=by
 have e:ks.zip l=(ks.zip (xs.zip l)).map fun p=>(p.1,p.2.2):=by
  have h:=aAN xs l uAu
  exact Aj4
 rw[aFO (by rw[oD ks l uAu];exact hn),e,aAS];rfl
theorem aIE {ks:List ByteArray} {xs:List Tr} {l:List Cel} {p:ByteArray×Tr×Cel} (h:p∈wO ks xs l):p.2∈xs.zip l:=
 (uH ((jG (f:=fun p:ByteArray×Tr×Cel=>kb p.1) _).mem_iff.1 h)).2
def wN (xs:List Tr) (l:List Cel):List (Tr×Cel):=lJ (fun p=>dG p.1) (xs.zip l)
theorem aGE (xs:List Tr) (l:List Cel) (hl:l.length=xs.length):lJ dG xs=(wN xs l).map (·.1):=by
 have h:=oD xs l uAu
 conv=>lhs;rw[<-h]
 rw[aAS];rfl
theorem aBy {xs:List Tr}:(xs.map kB).Nodup↔(xs.map dG).Nodup:=by
 rw[<-yR,kC];have:(kb∘kB)=dG:=funext fun a=>aBL a
 rw[this]
theorem aID (xs:List Tr) (l:List Cel) (hl:l.length=xs.length) (hn:(xs.map dG).Nodup):wG ((xs.map kB).zip l)=(wN xs l).map fun p=>(kB p.1,p.2):=by
 have e:(xs.map kB).zip l=(xs.zip l).map fun p=>(kB p.1,p.2):=by
  rw[List.zip_map_left];apply jX;intro p _;rfl
 rw[aFO (by rw[oD _ l (by simpa using hl.symm)];exact aBy.2 hn),e,aAS];unfold wN;congr 2
theorem aIC {xs:List Tr} {l:List Cel} {p:Tr×Cel} (h:p∈wN xs l):p∈xs.zip l:=(jG (f:=fun p:Tr×Cel=>dG p.1) _).mem_iff.1 h
theorem aEl {l:List (List UInt8)} (h:l.Pairwise fun a b=>a<=b):(Lib.compact l).length<l.length↔¬l.Nodup:=by
 have hle:=Lib.compact_length_le l;have key:(Lib.compact l).length=l.length↔∀j,j<l.length->Lib.keeps l.toArray j=true:=by
  unfold Lib.compact Lib.compactUpTo;rw[aH];have h1:=aId (p:=Lib.keeps l.toArray) (l:=List.range l.length);rw[List.length_range]at h1;rw[h1];simp
 have key2:(∀j,j<l.length->Lib.keeps l.toArray j=true)↔l.Nodup:=by
  constructor
  ·intro hk
   unfold List.Nodup;rw[eK]at h ⊢;intro i j hi hj hij;have hstep:∀(d:Nat) (hd:i+1+d<l.length),l[i]≠l[i+1+d]:=by
    intro d;have hk2:=hk (i+1+d);unfold Lib.keeps at hk2;intro hd he;have h3:=hk2 hd;simp only[iJ]at h3;rcases h3 with h3|h3
    ·omega
    ·rw[show i+1+d-1=i+d by omega]at h3
     rw[getElem!_pos _ _ (by simpa using hd),getElem!_pos _ _ uDv]at h3;simp only[List.getElem_toArray]at h3;have h4:=h (i+d) (i+1+d) uAu hd uAu;rcases gP d with rfl|hd0
     ·exact h3 he.symm
     ·have h5:=h i (i+d) hi uAu uAu
      rw[<-he]at h4 h3;exact h3 (aJF h5 h4)
   have:=hstep (j-i-1) uAu;simp only[show i+1+(j-i-1)=j by omega]at this;exact this
  ·intro hn j hj
   unfold Lib.keeps;simp only[iJ];rcases gP j with h0|h0
   ·exact .inl h0
   ·refine .inr ?_
    rw[getElem!_pos _ _ uDx,getElem!_pos _ _ uDv];simp only[List.getElem_toArray];unfold List.Nodup at hn;rw[eK]at hn;exact(hn (j-1) j uAu hj uAu).symm
 constructor
 ·intro hlt hn
  have:=key.2 (key2.2 hn);omega
 ·intro hn
  rcases cZ (Lib.compact l).length l.length with h1|h1
  ·exact h1
  ·exact absurd (key2.1 (key.1 uAu)) hn
theorem aC5 (l:List (List UInt8)):(Lib.compact (l.mergeSort fun x y=>decide (x<=y))).length<l.length↔¬l.Nodup:=by
 have h:=List.pairwise_mergeSort (le:=fun x y:List UInt8=>decide (x<=y)) (fun a b c h1 h2=>by simp only[iJ]at h1 h2 ⊢;exact List.le_trans h1 h2) (fun a b=>by simp only[pR,iJ];exact List.le_total a b) l;have hp:=List.mergeSort_perm l fun x y=>decide (x<=y)
 have h2:=aEl (h.imp fun h=>by simpa using h);rw[hp.length_eq,hp.nodup_iff]at h2;exact h2
end Go.Proofs.YtengibnpebfblaaGreatDoor
