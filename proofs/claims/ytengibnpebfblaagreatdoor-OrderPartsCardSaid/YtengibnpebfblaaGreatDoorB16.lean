import Derived.Test.YtengibnpebfblaaGreatDoorB13
import Derived.Test.YtengibnpebfblaaGreatDoorB15
set_option maxRecDepth 1000000
set_option maxHeartbeats 8000000
set_option linter.unusedSimpArgs false
namespace Go.Proofs.YtengibnpebfblaaGreatDoor
open Go.RowKit
def Found (hs:ByteArray->Nat) (S:Nat->Prop) (w:World) (L:List Ent) (k:ByteArray) (p:Option Nat):Prop:=match getE L k with
 |none=>p=none
 |some x=>∃b,p=some b/\EntAt hs S w b (k,x)
theorem Found.kp {hs:ByteArray->Nat} {S:Nat->Prop} {w w':World} {L:List Ent} {k:ByteArray} {p:Option Nat} (h:Found hs S w L k p) (kk:Kp S w w'):Found hs S w' L k p:=by
 unfold Found at h ⊢;cases hg:getE L k with
 |none=>rw[hg]at h;exact h
 |some x=>
  rw[hg]at h;obtain⟨b,h1,h2⟩:=h;exact⟨b,h1,h2.kp kk⟩
theorem Found.later {hs:ByteArray->Nat} {S:Nat->Prop} {w w':World} {L:List Ent} {k:ByteArray} {p:Option Nat} (h:Found hs S w L k p) (hb:Below w.heap.size w w'):Found hs S w' L k p:=h.kp (Kp.later hb)
theorem Found.isSome {hs:ByteArray->Nat} {S:Nat->Prop} {w:World} {L:List Ent} {k:ByteArray} {p:Option Nat} (h:Found hs S w L k p):p.isSome=(getE L k).isSome:=by
 unfold Found at h;cases hg:getE L k with
 |none=>rw[hg]at h;rw[h];rfl
 |some x=>rw[hg]at h;obtain⟨b,h1,_⟩:=h;rw[h1];rfl
theorem Found.congr {hs:ByteArray->Nat} {S:Nat->Prop} {w:World} {L M:List Ent} {k:ByteArray} {p:Option Nat} (h:Found hs S w L k p) (e:getE L k=getE M k):Found hs S w M k p:=by
 unfold Found at h ⊢;rw[<-e];exact h
def FindOk (hs:ByteArray->Nat) (f:Nat):Prop:=∀(S:Nat->Prop) (w:World) (L:List Ent) (c:Array Value) (k:ByteArray),NodeAt hs S f w L c->Rise L->L.length<=100000->
  Calls Tryz.prog 114 #[.agg c,.int .i64 ((13-f:Nat):Int),.int .u64 (hs k:Nat),.string k] w fun r w'=>∃p,r=.returned (pv p)/\Found hs S w' L k p/\Below w.heap.size w w'
theorem hm_find_0 (hs:ByteArray->Nat):FindOk hs 0:=by
 intro S w L c k h hL hn;obtain⟨w1,hw1⟩:∃w1,w.alloc (.cells c 96)=w1:=⟨_,rfl⟩
 have hb1:Below w.heap.size w w1:=by rw[<-hw1];exact Below.newly' _ _
 have hx1:w1.heap[w.heap.size]? =some (.cells c 96 (0,0)):=by rw[<-hw1];exact heap_alloc_last _ _
 have HX1:=iH hx1;have HB1:=iH hb1;have HS:=iH (hm_search w1 L c k (h.later hb1) hL hn);have HSZ:=iH h.size;obtain⟨v,qs,rfl,h2,hq,h4⟩:=h;obtain⟨p1,p2⟩:=at_place hL k;rw[show(((13-0:Nat):Nat):Int)=13 from rfl];cases hg:getE L k with
 |none=>
  rw[hg]at HS;clear h2 h4 p1 p2 hb1 hx1;go_enter Tryz.func114,Tryz.ntmps114;go_upto_region 1 with fail
  clear hw1;go_wp2_with (first
   |(refine ld_if (by rfl) 96 _ rfl w.heap.size rfl 96 _ _ _ HX1.out Tryz.underlying96 rfl nd_size ?_)
   |(go_at_call 130;refine HS.out.mono ?_;rintro r w2 ⟨rfl,hb⟩;have HB2:=iH (tW HB1.out hb);clear hb))
  go_ret;exact⟨none,rfl,by unfold Found;rw[hg],HB2.out⟩
 |some x=>
  rw[hg]at HS;obtain⟨e,he,hek,hex⟩:=p2 (by rw[hg];rfl);obtain⟨N,hN⟩:∃N,N=(belE L k).length:=⟨_,rfl⟩
  rw[<-hN]at HS he;rw[hq,List.getElem?_map]at he;obtain⟨q,hqN,hqe⟩:=Option.map_eq_some_iff.1 he;have hlt:=(List.getElem?_eq_some_iff.1 hqN).1;obtain⟨hl,h2⟩:=h2;rw[hq,List.length_map]at h2;rcases h2 with⟨h0,_⟩|⟨h0,g,cp,cur,rfl,hcp,hS,hgg,hc⟩
  ·omega
  ·have hcell:w.cell? ⟨g,N,none⟩=some (pv (some q.1)):=cell_in hgg (hc N _ (by rw[flat_ps,hqN];rfl))
   have hcell1:=(hb1.cell (p:=⟨g,N,none⟩) (gZ hgg)).trans hcell;have HEN:=iH (h4 q (List.mem_of_getElem? hqN));rw[hg]at hex;have hqk:q.2=(k,x):=by rw[hqe];exact Prod.ext hek (Option.some.inj hex).symm
   rw[hqk]at HEN;have HC1:=iH hcell1;have hlt':(N:Int)<(qs.length:Int):=by omega
   obtain⟨b,hb⟩:∃b,b=q.1:=⟨_,rfl⟩
   rw[<-hb]at HC1 HEN;have HG1:=iH (gZ hgg);clear h4 p1 p2 hb1 hx1 hl hgg hc hcell hcell1 he hqe hqk hqN hlt hek hex hN hb;go_enter Tryz.func114,Tryz.ntmps114;go_upto_region 1 with fail
   clear hw1;go_wp2_with (first
    |(refine ld_if (by rfl) 96 _ rfl w.heap.size rfl 96 _ _ _ HX1.out Tryz.underlying96 rfl nd_size ?_)
    |(go_at_call 130;refine HS.out.mono ?_;rintro r w2 ⟨rfl,hb⟩;have HB2:=iH (tW HB1.out hb);have ca2:w2.cell? ⟨w.heap.size,2,none⟩=some (.slice (some ⟨g,0,none⟩) qs.length cp):=cell_in (kW hb HX1.out) rfl;have cg2:w2.cell? ⟨g,N,none⟩=some (pv (some b)):=(hb.cell (p:=⟨g,N,none⟩) (Nat.lt_of_lt_of_le HG1.out HB1.out.size)).trans HC1.out;clear hb))
   go_ret;exact⟨some b,rfl,by unfold Found;rw[hg];exact⟨b,rfl,HEN.out.later HB2.out⟩,HB2.out⟩
theorem row_range {V:World} {X:Nat} {a b d:Value} {T:TypeId} {fr:Nat×Nat} (h:V.heap[X]? =some (.cells #[a,b,d] T fr)):V.rangeAt X 0 (#[a,b]:Array Value).toList:=fun j u hu=>by
 refine cell_in h ?_;rcases j with _|_|j
 ·simpa using hu
 ·simpa using hu
 ·simp at hu
theorem hm_find_s (hs:ByteArray->Nat) (hlt:∀k,hs k<18446744073709551616) (f:Nat) (hf:f<=12) (ih:FindOk hs f):FindOk hs (f+1):=by
 intro S w L c k h hL hn;obtain⟨w1,hw1⟩:∃w1,w.alloc (.cells c 96)=w1:=⟨_,rfl⟩
 have hb1:Below w.heap.size w w1:=by rw[<-hw1];exact Below.newly' _ _
 have hx1:w1.heap[w.heap.size]? =some (.cells c 96 (0,0)):=by rw[<-hw1];exact heap_alloc_last _ _
 have hs1:w1.heap.size=w.heap.size+1:=by rw[<-hw1];simp
 obtain⟨lv,hlv⟩:∃lv:Nat,lv=12-f:=⟨_,rfl⟩
 have e13:(13-(f+1):Nat)=lv:=by omega
 rw[e13];obtain⟨b,v,R,rfl,hrow,hpl⟩:=h.row;obtain⟨i,hi⟩:∃i,i=chunkN (hs k) (lv:Int):=⟨_,rfl⟩
 have hi32:i<32:=by rw[hi];exact chunkN_lt _ _
 have HCH:=iH (fun W=>mix_Chunk (hs k) (lv:Int) (hlt k) W);rw[<-hi]at HCH;have HGET:=iH (fun W (hb:Below w.heap.size w W)=>pr_Get W R #[b,v] i hi32 (hrow.later hb));have HPL:=iH (hpl i hi32);have hch:getE (chE hs lv i L) k=getE L k:=ch_get (by rw[hi]);rw[<-hlv]at HPL;have HCE:=iH hch;have HRI:=iH (hL.ch hs lv i);have HLE:=iH (Nat.le_trans (ch_len_le (hs:=hs) (lv:=lv) (i:=i) (L:=L)) hn);have HIH:=iH ih;have HX1:=iH hx1;have HB1:=iH hb1;have HS1:=iH hs1;have hn13:((lv:Int)==13)=false:=beq_eq_false_iff_ne.2 (by omega);have hlv12:(lv:Int)<=12:=by omega
 have HLV:Hid ((13-f:Nat)=lv+1):=by show _=_;omega
 obtain⟨M,hM⟩:∃M,M=chE hs lv i L:=⟨_,rfl⟩
 rw[<-hM]at HPL HCE HRI HLE;obtain⟨h1,u1⟩:∃x:Nat,x=hs k:=⟨_,rfl⟩
 have HU1:=iH u1;rw[<-u1]at HCH ⊢;obtain⟨bb,rfl⟩:∃bb:Nat,b=.int .u32 (bb:Int):=by obtain⟨v',e,_⟩:=hrow;simp only[Array.mk.injEq,List.cons.injEq]at e;exact⟨_,e.1⟩
 obtain⟨va,vn,vc,rfl⟩:∃a n c,v=.slice a n c:=by obtain⟨a,n,e⟩:=hrow.shape;simp only[Array.mk.injEq,List.cons.injEq]at e;exact⟨_,_,_,e.2.1⟩
 clear h hrow hpl hch hx1 hb1 hs1 hi hM hL hn ih u1 hlv e13;go_enter Tryz.func114,Tryz.ntmps114;go_upto_region 6 with fail
 clear hw1;have HKS:Hid (∀V,Below w1.heap.size w1 V->(V.heap[w.heap.size]? =some (.cells #[.int .u32 (bb:Int),.slice va vn vc,.slice none 0 0] 96 (0,0)))):=fun V hV=>(hV.block _ (by have:=HS1.out;omega)).trans HX1.out
 have HW:Hid (Below w1.heap.size w1 w1.drew):=drawn_below w1;refine wp_region_T (S:=(fun V=>V.heap[w.heap.size]? =some (.cells #[.int .u32 (bb:Int),.slice va vn vc,.slice none 0 0] 96 (0,0)))) [] (by kernel_rfl) (by exact HKS.out _ HW.out) (fun hHeld=> ?_);refine tkA 0 29 (h:=?_);refine tyA 1 30 (hy:=yieldsIf_arr (by rfl) 93 _ rfl w.heap.size 0 rfl #[.int .u32 (bb:Int),.slice va vn vc] _ (fun w hw=>(row_range hw)) Tryz.underlying93 rfl (by exact row_size)) (h:=?_);(try simp only[pq]);refine tkA 2 31 (h:=?_);refine tkA 3 32 (h:=?_);(try simp only[pq]);refine wpAnyT_takeC (i:=4) (oi:=⟨some 33,_,_,_,_,_⟩) (v:=.int .i64 (i:Int)) rfl (by kernel_rfl) (by kernel_rfl) (by kernel_rfl) (by kernel_rfl) (fun _ _ _ h=>h) ⟨by rfl,fun w hSw=>⟨132,#[.int .u64 (h1:Int),.int .i64 (lv:Int)],?hg1_4,(HCH.out w).mono fun _ _ h=>⟨h.1,h.2.symm⟩⟩⟩ (by assumption) ?rg1_4
 case hg1_4=>go_simp
 (try simp only[pq]);refine wpAnyT_ready (rs:=[5,9]) (by kernel_rfl) (by simp) ?_;refine AllT.cons (o:=⟨some 34,_,_,_,_,_⟩) rfl (fun K hK=> ?_) (AllT.cons (o:=⟨some 11,_,_,_,_,_⟩) rfl (fun K hK=> ?_) AllT.nil)
 ·go_simp
  go_at_call 131;refine(HGET.out _ (tW HB1.out HW.out)).mono ?_;rintro r w5 ⟨rfl,hb⟩;replace HW:=iH (tW HW.out hb);clear hb;dsimp only;refine hK.out _ _ (by exact HKS.out _ HW.out) (fun hHeld=> ?_);clear hK K;(try simp only[pq]);refine tkA 6 28 (h:=?_);refine tkA 7 35 (h:=?_);(try simp only[pq]);refine tkA 8 36 (h:=?_);(try simp only[pq]);refine tkO 9 (some 11) (h:=fun K hK=> ?_);go_simp;have HPX:Hid (PBox (w5.alloc (.cells #[.pointer none,.pointer none] 186)) w5.heap.size (none,none)):=heap_alloc_last w5 _;have HXL:=iH HW.out.size;replace HW:=iH (HW.out.trans ((Below.newly' w5 (.cells #[.pointer none,.pointer none] 186)).mono HW.out.size));obtain⟨X,hX⟩:∃X,X=w5.heap.size:=⟨_,rfl⟩
  rw[<-hX]at HPX HXL ⊢;clear hX;refine hK.out _ _ (by exact HKS.out _ HW.out) (fun hHeld=> ?_);clear hK K;(try simp only[pq]);refine tkO 10 none (h:=fun K hK=> ?_);rw[if_pos (by rfl)];refine st_agg_wp 186 _ _ rfl X (plc ((R i).getD (none,none))) rfl rfl 186 (plc (none,none)) HPX.out pl_size rfl (plc_one _) ?_;intro w6 h6 k6;have HP6:=iH h6;replace HW:=iH (HW.out.trans (k6.below HXL.out));clear h6 k6 HPX;refine hK.out _ _ (by exact HKS.out _ HW.out) (fun hHeld=> ?_);clear hK K;(try simp only[pq]);refine tkA 11 12 (h:=?_);(try simp only[pq]);refine wpAnyT_done (by kernel_rfl) ?_ _;have HWW:=iH (tW HB1.out HW.out);clear hHeld;rcases M with _|⟨e,_|⟨e2,M2⟩⟩
  ·have hr:R i=none:=HPL.out
   rw[hr]at HP6 ⊢;have cx0:w6.cell? ⟨X,0,none⟩=some (.pointer none):=cell_in HP6.out rfl;have cx1:w6.cell? ⟨X,1,none⟩=some (.pointer none):=cell_in HP6.out rfl;have HG:Hid (getE L k=none):=by show _=_;rw[<-HCE.out];rfl
   clear hr;go_wp2_with fail
   go_ret;exact⟨none,rfl,by unfold Found;rw[HG.out],HWW.out⟩
  ·obtain⟨b,hr,he⟩:=HPL.out
   rw[hr]at HP6 ⊢;have HE6:=iH (he.later HWW.out);have cx0:w6.cell? ⟨X,0,none⟩=some (.pointer (some ⟨b,0,none⟩)):=cell_in HP6.out rfl;have cx1:w6.cell? ⟨X,1,none⟩=some (.pointer none):=cell_in HP6.out rfl;have ce0:w6.cell? ⟨b,0,none⟩=some (.string e.1):=by
    obtain⟨_,fr,h⟩:=HE6.out;exact cell_in h rfl
   have hge:getE [e] k=if e.1=k then some e.2 else none:=by
    unfold getE;by_cases h:e.1=k
    ·simp[h]
    ·simp[h]
   have HGE:Hid (getE L k=if e.1=k then some e.2 else none):=by show _=_;rw[<-HCE.out];exact hge
   clear hr he hge;by_cases hk:e.1=k
   ·have hkk:(e.1.toList==k.toList)=true:=by rw[hk];simp
    have HKK:=iH hk;clear hk;go_wp2_with fail
    go_ret;refine⟨some b,rfl,?_,HWW.out⟩;unfold Found;rw[HGE.out,if_pos HKK.out];refine⟨b,rfl,?_⟩;rw[<-HKK.out];exact HE6.out
   ·have hkk:(e.1.toList==k.toList)=false:=beq_eq_false_iff_ne.2 fun h=>hk (kb_inj (by rw[ByteArray.toList_eq,ByteArray.toList_eq]at h;exact h))
    have HKK:=iH hk;clear hk;go_wp2_with fail
    go_ret;exact⟨none,rfl,by unfold Found;rw[HGE.out,if_neg HKK.out],HWW.out⟩
  ·obtain⟨b,c2,fr,hr,hSb,hbk,hN⟩:=HPL.out
   rw[hr]at HP6 ⊢;have cx1:w6.cell? ⟨X,1,none⟩=some (.pointer (some ⟨b,0,none⟩)):=cell_in HP6.out rfl;have HBK:=iH (kW HWW.out hbk);have hih:=HIH.out S w6 _ c2 k (hN.later HWW.out) HRI.out HLE.out;rw[HLV.out,<-HU1.out,show(((lv+1:Nat):Nat):Int)=(lv:Int)+1 by omega]at hih;have HF:=iH hih;have HSZ2:=iH hN.size;clear hr hSb hbk hN hih;go_wp2_with (first
    |(refine ld_if (by rfl) 96 _ rfl b rfl 96 _ _ _ HBK.out Tryz.underlying96 rfl (by rw[HSZ2.out];exact nd_size) ?_)
    |(go_at_call 114;refine HF.out.mono ?_;rintro r w7 ⟨p,rfl,hp,hb⟩;have HFO:=iH hp;have HB7:=iH (tW HWW.out hb);clear hp hb))
   go_ret;exact⟨p,rfl,(HFO.out.congr HCE.out),HB7.out⟩
 ·go_simp
  obtain⟨W2,hW2⟩:∃W2,(w1.alloc (.cells #[.pointer none,.pointer none] 186)).drew=W2:=⟨_,rfl⟩
  have HPX0:Hid (PBox W2 w1.heap.size (none,none)):=by show _=_;rw[<-hW2];exact heap_alloc_last w1 _
  have hb:Below w1.heap.size w1 W2:=by rw[<-hW2];exact Below.drewMany (Below.newly' w1 _) 1
  replace HW:=iH hb;have HXL:Hid (w1.heap.size<=w1.heap.size):=Nat.le_refl _;have HXLT:Hid (w1.heap.size<W2.heap.size):=by show _<_;rw[<-hW2];simp
  rw[hW2];clear hb hW2;obtain⟨X,hX⟩:∃X,X=w1.heap.size:=⟨_,rfl⟩
  rw[<-hX]at HPX0 HXLT ⊢;replace HXL:Hid (w1.heap.size<=X):=by show _<=_;rw[hX];exact Nat.le_refl _
  clear hX;refine hK.out _ _ (by exact HKS.out _ HW.out) (fun hHeld=> ?_);clear hK K;(try simp only[pq]);refine tkO 5 (some 34) (h:=fun K hK=> ?_);go_simp;go_at_call 131;refine(HGET.out _ (tW HB1.out HW.out)).mono ?_;rintro r w5 ⟨rfl,hb⟩;have HPX:=iH ((hb.block X HXLT.out).trans HPX0.out);replace HW:=iH (tW HW.out hb);clear hb;dsimp only;refine hK.out _ _ (by exact HKS.out _ HW.out) (fun hHeld=> ?_);clear hK K;(try simp only[pq]);refine tkA 6 28 (h:=?_);refine tkA 7 35 (h:=?_);(try simp only[pq]);refine tkA 8 36 (h:=?_);(try simp only[pq]);refine tkO 10 none (h:=fun K hK=> ?_);rw[if_pos (by rfl)];refine st_agg_wp 186 _ _ rfl X (plc ((R i).getD (none,none))) rfl rfl 186 (plc (none,none)) HPX.out pl_size rfl (plc_one _) ?_;intro w6 h6 k6;have HP6:=iH h6;replace HW:=iH (HW.out.trans (k6.below HXL.out));clear h6 k6 HPX;refine hK.out _ _ (by exact HKS.out _ HW.out) (fun hHeld=> ?_);clear hK K;(try simp only[pq]);refine tkA 11 12 (h:=?_);(try simp only[pq]);refine wpAnyT_done (by kernel_rfl) ?_ _;have HWW:=iH (tW HB1.out HW.out);clear hHeld;rcases M with _|⟨e,_|⟨e2,M2⟩⟩
  ·have hr:R i=none:=HPL.out
   rw[hr]at HP6 ⊢;have cx0:w6.cell? ⟨X,0,none⟩=some (.pointer none):=cell_in HP6.out rfl;have cx1:w6.cell? ⟨X,1,none⟩=some (.pointer none):=cell_in HP6.out rfl;have HG:Hid (getE L k=none):=by show _=_;rw[<-HCE.out];rfl
   clear hr;go_wp2_with fail
   go_ret;exact⟨none,rfl,by unfold Found;rw[HG.out],HWW.out⟩
  ·obtain⟨b,hr,he⟩:=HPL.out
   rw[hr]at HP6 ⊢;have HE6:=iH (he.later HWW.out);have cx0:w6.cell? ⟨X,0,none⟩=some (.pointer (some ⟨b,0,none⟩)):=cell_in HP6.out rfl;have cx1:w6.cell? ⟨X,1,none⟩=some (.pointer none):=cell_in HP6.out rfl;have ce0:w6.cell? ⟨b,0,none⟩=some (.string e.1):=by
    obtain⟨_,fr,h⟩:=HE6.out;exact cell_in h rfl
   have hge:getE [e] k=if e.1=k then some e.2 else none:=by
    unfold getE;by_cases h:e.1=k
    ·simp[h]
    ·simp[h]
   have HGE:Hid (getE L k=if e.1=k then some e.2 else none):=by show _=_;rw[<-HCE.out];exact hge
   clear hr he hge;by_cases hk:e.1=k
   ·have hkk:(e.1.toList==k.toList)=true:=by rw[hk];simp
    have HKK:=iH hk;clear hk;go_wp2_with fail
    go_ret;refine⟨some b,rfl,?_,HWW.out⟩;unfold Found;rw[HGE.out,if_pos HKK.out];refine⟨b,rfl,?_⟩;rw[<-HKK.out];exact HE6.out
   ·have hkk:(e.1.toList==k.toList)=false:=beq_eq_false_iff_ne.2 fun h=>hk (kb_inj (by rw[ByteArray.toList_eq,ByteArray.toList_eq]at h;exact h))
    have HKK:=iH hk;clear hk;go_wp2_with fail
    go_ret;exact⟨none,rfl,by unfold Found;rw[HGE.out,if_neg HKK.out],HWW.out⟩
  ·obtain⟨b,c2,fr,hr,hSb,hbk,hN⟩:=HPL.out
   rw[hr]at HP6 ⊢;have cx1:w6.cell? ⟨X,1,none⟩=some (.pointer (some ⟨b,0,none⟩)):=cell_in HP6.out rfl;have HBK:=iH (kW HWW.out hbk);have hih:=HIH.out S w6 _ c2 k (hN.later HWW.out) HRI.out HLE.out;rw[HLV.out,<-HU1.out,show(((lv+1:Nat):Nat):Int)=(lv:Int)+1 by omega]at hih;have HF:=iH hih;have HSZ2:=iH hN.size;clear hr hSb hbk hN hih;go_wp2_with (first
    |(refine ld_if (by rfl) 96 _ rfl b rfl 96 _ _ _ HBK.out Tryz.underlying96 rfl (by rw[HSZ2.out];exact nd_size) ?_)
    |(go_at_call 114;refine HF.out.mono ?_;rintro r w7 ⟨p,rfl,hp,hb⟩;have HFO:=iH hp;have HB7:=iH (tW HWW.out hb);clear hp hb))
   go_ret;exact⟨p,rfl,(HFO.out.congr HCE.out),HB7.out⟩
theorem hm_find (hs:ByteArray->Nat) (hlt:∀k,hs k<18446744073709551616):∀f,f<=13->FindOk hs f
 |0,_=>hm_find_0 hs
 |f+1,h=>hm_find_s hs hlt f (by omega) (hm_find hs hlt f (by omega))
theorem mixlen_bytes (s:ByteArray):s.data.toList.length=s.size:=by simp
theorem mixget_bytes (s:ByteArray) (k:Nat) (h:k<s.size):s.data.toList.getD k 0=s[k]:=by
 rw[List.getD_eq_getElem?_getD,List.getElem?_eq_getElem (by simpa using h)];rfl
theorem mixcut_drop (s:ByteArray) (k:Nat):(s.extract k s.size).data.toList=s.data.toList.drop k:=by
 simp;rw[List.take_of_length_le (by simp)]
theorem mixcut_size (s:ByteArray) (k:Nat):(s.extract k s.size).size=s.size-k:=by simp
theorem shl_nat (c:UInt8) (k:Nat) (hk:k<=7):IntKind.u64.wrap (IntKind.u64.wrap (c.toNat:Int)*2^(8*(7-k)))=((c.toNat*2^(8*(7-k)):Nat):Int):=by
 have hc:c.toNat<256:=c.toNat_lt;have h:=byte_lt c k hk;rw[pow_nat,IntKind.wrap_u64,IntKind.wrap_u64,show((c.toNat:Int) % 18446744073709551616)=(c.toNat:Int) by omega,<-Int.natCast_mul];omega
theorem wd_step (l:List UInt8) (k:Nat) (c:UInt8) (hk:k<=7) (hc:l.getD k 0=c):
  bits .or .u64 (wd l k:Int) (IntKind.u64.wrap (IntKind.u64.wrap (c.toNat:Int)*2^(8*(7-k))))=(wd l (k+1):Int):=by
 rw[shl_nat c k hk,bits_or_u64_nat _ _ (wd_lt l k (by omega)) (byte_lt c k hk),<-hc];rfl
theorem mix_word (s:ByteArray) (hs:s.size<=maxLen) (w:World):
  Calls Tryz.prog 73 #[.string s] w fun e w'=>e=.returned (.int .u64 (wd s.data.toList (min s.size 8):Nat))/\w=w':=by
 unfold maxLen at hs;go_enter Tryz.func73,Tryz.ntmps73;go_wp2_with fail
 go_loop [3,8] (fun v n=>∃i:Nat,i<=s.size/\i<=8/\n=.int .i64 i/\v=.int .u64 (wd s.data.toList i:Nat)) (fun _ n=>8-(intOf n).toNat)
 case atStart=>exact⟨0,Nat.zero_le _,Nat.zero_le _,rfl,rfl⟩
 case round=>
  obtain⟨i,hi,h9,rfl,rfl⟩:=hrel;by_cases h1:i<8/\i<s.size
  ·obtain⟨h1,h2⟩:=h1
   have HS:=Lib.hid (wd_step s.data.toList i s[i] (by omega) (mixget_bytes s i h2));go_wp2
   go_round
   case rel=>exact⟨i+1,by omega,by omega,by go_num,by rw[HS.out]⟩
   case measure=>simp[intOf];omega
  ·have e:Hid (i=min s.size 8):=by show _=_;omega
   go_wp2
   go_ret;exact⟨ret_u64 (by rw[e.out]),rfl⟩
theorem mix_Text (seed:Nat) (s:ByteArray) (hseed:seed<18446744073709551616) (hz:s.size<=9223372036854775800) (w:World):
  Calls Tryz.prog 42 #[.int .u64 (seed:Int),.string s] w fun e w'=>e=.returned (.int .u64 (txtN seed s.data.toList:Nat))/\w=w':=by
 have H0:=Lib.hid (fun w=>mix_Step seed s.size hseed (by omega) w);have hc:IntKind.u64.wrap (s.size:Int)=(s.size:Int):=by rw[IntKind.wrap_u64];omega
 clear hseed;go_enter Tryz.func42,Tryz.ntmps42;go_wp2_with fail
 refine(H0.out w).mono ?_;rintro e w1 ⟨rfl,rfl⟩;go_wp2_with fail
 go_loop [5,6] (fun v n=>∃a j:Nat,Hid (a=8*j)/\a<=s.size+7/\n=.int .i64 a/\v=.int .u64 (hs seed s.data.toList j:Nat)) (fun _ n=>s.size+7-(intOf n).toNat)
 case atStart=>exact⟨0,0,rfl,Nat.zero_le _,rfl,by rw[hs,mixlen_bytes]⟩
 case round=>
  obtain⟨a,j,HJ,ha,rfl,rfl⟩:=hrel;by_cases h1:a<s.size
  ·have HW:=Lib.hid (fun w=>mix_word (s.extract a s.size) (by rw[mixcut_size];unfold maxLen;omega) w)
   rw[mixcut_drop,mixcut_size]at HW;obtain⟨x,hx⟩:∃x,x=wd (s.data.toList.drop a) (min (s.size-a) 8):=⟨_,rfl⟩
   rw[<-hx]at HW;have HX:Hid (x=wd (s.data.toList.drop (8*j)) (min (s.data.toList.length-8*j) 8)):=by show _=_;rw[mixlen_bytes,<-HJ.out];exact hx
   have HS:=Lib.hid (fun w=>mix_Step (hs seed s.data.toList j) x (hs_lt _ _ _) (hx▸wd_lt _ _ (by omega)) w);clear hx;go_wp2_with fail
   refine(HW.out _).mono ?_;rintro e w1 ⟨rfl,rfl⟩;go_wp2_with fail
   refine(HS.out _).mono ?_;rintro e w1 ⟨rfl,rfl⟩;go_wp2_with fail
   go_round
   case rel=>exact⟨a+8,j+1,by show _=_;have:=HJ.out;omega,by omega,by go_num,by rw[HX.out];rfl⟩
   case measure=>simp[intOf];omega
  ·have HE:=Lib.hid (fun w=>mix_End (hs seed s.data.toList j) (hs_lt _ _ _) w)
   have e:Hid (j=(s.data.toList.length+7)/8):=by show _=_;rw[mixlen_bytes];have:=HJ.out;omega
   go_wp2_with fail
   refine(HE.out _).mono ?_;rintro e w1 ⟨rfl,rfl⟩;go_wp2_with fail
   go_ret;exact⟨ret_u64 (by rw[e.out];rfl),rfl⟩
def TrM (seed:Nat) (l:List UInt8) (i o p:Nat):Prop:=
 o=hs seed l (if i=l.length then(l.length+7)/8 else i/8)/\p=wd (l.drop (8*(i/8))) (if i=l.length then 0 else i % 8)
theorem tr_start (seed:Nat) (l:List UInt8):TrM seed l 0 (stepN seed l.length) 0:=by
 refine⟨?_,?_⟩
 ·have:(if 0=l.length then(l.length+7)/8 else 0/8)=0:=by split<;>omega
  rw[this];rfl
 ·have:(if 0=l.length then 0 else 0 % 8)=0:=by split<;>rfl
  rw[this];rfl
theorem tr_word {seed:Nat} {l:List UInt8} {i o p:Nat} (h:TrM seed l i o p) (hi:i<l.length):p=wd (l.drop (8*(i/8))) (i % 8):=by
 have:=h.2;rwa[if_neg (by omega)]at this
theorem tr_sum {seed:Nat} {l:List UInt8} {i o p:Nat} (h:TrM seed l i o p) (hi:i<l.length):o=hs seed l (i/8):=by
 have:=h.1;rwa[if_neg (by omega)]at this
theorem tr_lt {seed:Nat} {l:List UInt8} {i o p:Nat} (h:TrM seed l i o p):o<18446744073709551616:=by rw[h.1];exact hs_lt _ _ _
theorem tr_flush {seed:Nat} {l:List UInt8} {i o p x:Nat} (h:TrM seed l i o p) (hi:i<l.length) (hf:i % 8=7\/i+1=l.length) (hx:x=wd (l.drop (8*(i/8))) (i % 8+1)):TrM seed l (i+1) (stepN o x) 0:=by
 have e:min (l.length-8*(i/8)) 8=i % 8+1:=by omega
 have e1:(if i+1=l.length then(l.length+7)/8 else(i+1)/8)=i/8+1:=by split<;>omega
 have e2:(if i+1=l.length then 0 else(i+1) % 8)=0:=by split<;>omega
 refine⟨?_,?_⟩
 ·rw[e1,tr_sum h hi,hx,<-e];rfl
 ·rw[e2];rfl
theorem tr_keep {seed:Nat} {l:List UInt8} {i o p x:Nat} (h:TrM seed l i o p) (hi:i<l.length) (h7:¬i % 8=7) (hl:¬i+1=l.length) (hx:x=wd (l.drop (8*(i/8))) (i % 8+1)):TrM seed l (i+1) o x:=by
 refine⟨?_,?_⟩
 ·rw[if_neg hl,tr_sum h hi,show(i+1)/8=i/8 by omega]
 ·rw[if_neg hl,hx,show(i+1)/8=i/8 by omega,show(i+1) % 8=i % 8+1 by omega]
theorem tr_end {seed:Nat} {l:List UInt8} {o p:Nat} (h:TrM seed l l.length o p):endN o=txtN seed l:=by
 have:=h.1;rw[if_pos rfl]at this;rw[this];rfl
theorem tr_or {seed:Nat} {s:ByteArray} {i o p:Nat} (h:TrM seed s.data.toList i o p) (hi:i<s.size):
  bits .or .u64 (p:Int) (IntKind.u64.wrap (IntKind.u64.wrap (s[i].toNat:Int)*2^(56-8*(i % 8))))=(wd (s.data.toList.drop (8*(i/8))) (i % 8+1):Nat):=by
 rw[tr_word h (by rw[mixlen_bytes];exact hi),show 56-8*(i % 8)=8*(7-i % 8) by omega];refine wd_step _ _ s[i] (by omega) ?_;rw[<-mixget_bytes s i hi,List.getD_eq_getElem?_getD,List.getD_eq_getElem?_getD,List.getElem?_drop,show 8*(i/8)+i % 8=i by omega]
theorem ref_Text (seed:Nat) (s:ByteArray) (hseed:seed<18446744073709551616) (hz:s.size<=9223372036854775800) (w:World):
  Calls Tryz.prog 43 #[.int .u64 (seed:Int),.string s] w fun e w'=>e=.returned (.int .u64 (txtN seed s.data.toList:Nat))/\w=w':=by
 have H0:=Lib.hid (fun w=>ref_Step seed s.size hseed (by omega) w);have hc:IntKind.u64.wrap (s.size:Int)=(s.size:Int):=by rw[IntKind.wrap_u64];omega
 clear hseed;go_enter Tryz.func43,Tryz.ntmps43;go_wp2_with fail
 refine(H0.out w).mono ?_;rintro e w1 ⟨rfl,rfl⟩;go_wp2_with fail
 go_loop [5,6,15] (fun v x n=>∃i o p:Nat,i<=s.size/\n=.int .i64 i/\v=.int .u64 o/\x=.int .u64 p/\Hid (TrM seed s.data.toList i o p)) (fun _ _ n=>s.size-(intOf n).toNat)
 case atStart=>exact⟨0,_,0,Nat.zero_le _,rfl,rfl,rfl,by have:=tr_start seed s.data.toList;rwa[mixlen_bytes]at this⟩
 case round=>
  obtain⟨i,o,p,hi,rfl,rfl,rfl,HT⟩:=hrel;by_cases h1:i<s.size
  ·obtain⟨x,hx⟩:∃x,x=wd (s.data.toList.drop (8*(i/8))) (i % 8+1):=⟨_,rfl⟩
   have ho:=tr_or HT.out h1;rw[<-hx]at ho;have HX:=Lib.hid hx;have HL:Hid (i<s.data.toList.length):=by show _<_;rw[mixlen_bytes];exact h1
   have HS:=Lib.hid (fun w=>ref_Step o x (tr_lt HT.out) (hx▸wd_lt _ _ (by omega)) w);clear hx;by_cases h2:i % 8=7
   ·have HF:=Lib.hid (tr_flush HT.out HL.out (.inl h2) HX.out)
    rw[h2,show 56-8*7=0 from rfl,Int.pow_zero,Int.mul_one]at ho;go_wp2_with fail
    refine(HS.out _).mono ?_;rintro e w1 ⟨rfl,rfl⟩;go_wp2_with fail
    go_round
    case rel=>exact⟨i+1,_,0,by omega,by go_num,rfl,rfl,HF⟩
    case measure=>simp[intOf];omega
   ·have h2':((i:Int) % 8==7)=false:=beq_eq_false_iff_ne.2 (by omega)
    by_cases h3:i+1=s.size
    ·have HF:=Lib.hid (tr_flush HT.out HL.out (.inr (by rw[mixlen_bytes];exact h3)) HX.out)
     have h3':((i:Int)==(s.size:Int)-1)=true:=by simp;omega
     go_wp2_with fail
     refine(HS.out _).mono ?_;rintro e w1 ⟨rfl,rfl⟩;go_wp2_with fail
     go_round
     case rel=>exact⟨i+1,_,0,by omega,by go_num,rfl,rfl,HF⟩
     case measure=>simp[intOf];omega
    ·have HK:=Lib.hid (tr_keep HT.out HL.out h2 (by rw[mixlen_bytes];exact h3) HX.out)
     have h3':((i:Int)==(s.size:Int)-1)=false:=beq_eq_false_iff_ne.2 (by omega);go_wp2_with fail
     go_round
     case rel=>exact⟨i+1,_,_,by omega,by go_num,rfl,rfl,HK⟩
     case measure=>simp[intOf];omega
  ·have e:i=s.data.toList.length:=by rw[mixlen_bytes];omega
   have HE:=Lib.hid (fun w=>ref_End o (tr_lt HT.out) w);have HV:Hid (endN o=txtN seed s.data.toList):=tr_end (e▸HT.out);clear e;go_wp2_with fail
   refine(HE.out _).mono ?_;rintro e w1 ⟨rfl,rfl⟩;go_wp2_with fail
   go_ret;exact⟨ret_u64 (by rw[HV.out]),rfl⟩
section
variable {P : Program} {md : Region.Mode} {ops : Array Oper} {Q : Exit → Act → World → Prop} {S : World → Prop} {U : List Nat}
def markG (listed:Array Bool):List Nat->Array Bool
 |[]=>listed
 |i::m=>(markG listed m).setIfInBounds i true
theorem markG_size (listed:Array Bool):∀m,(markG listed m).size=listed.size
 |[]=>rfl
 |i::m=>by rw[markG,Array.size_setIfInBounds,markG_size listed m]
theorem markG_get (listed:Array Bool) (k:Nat):∀m,k∉m->(markG listed m).getD k false=listed.getD k false
 |[],_=>rfl
 |i::m,h=>by
  rw[List.mem_cons,not_or]at h;rw[markG,getD_set_ne false (fun e=>h.1 e.symm),markG_get listed k m h.2]
theorem markG_getT (listed:Array Bool) (k:Nat):∀m,k∉m->(markG listed m).getD k true=listed.getD k true
 |[],_=>rfl
 |i::m,h=>by
  rw[List.mem_cons,not_or]at h;rw[markG,getD_set_ne true (fun e=>h.1 e.symm),markG_getT listed k m h.2]
theorem markG_in (listed:Array Bool) (k:Nat):∀m,k∈m->(markG listed m).getD k true=true
 |i::m,h=>by
  rw[markG];by_cases hk:i=k
  ·subst hk
   rw[Array.getD_eq_getD_getElem?,Array.getElem?_setIfInBounds_self];split<;>rfl
  ·rw[getD_set_ne true hk]
   exact markG_in listed k m ((List.mem_cons.1 h).resolve_left fun e=>hk e.symm)
theorem markG_congr (listed:Array Bool) {m m':List Nat} (h:∀k,k∈m↔k∈m'):markG listed m=markG listed m':=by
 apply Array.ext
 ·rw[markG_size,markG_size]
 ·intro k h1 h2
  have e:∀(a:Array Bool) (h:k<a.size),a[k]=a.getD k true:=fun a h=>by simp[h]
  rw[e,e];by_cases hk:k∈m
  ·rw[markG_in listed k m hk,markG_in listed k m' ((h k).1 hk)]
  ·rw[markG_getT listed k m hk,markG_getT listed k m' (fun h'=>hk ((h k).2 h'))]
def subsG:List Nat->List (List Nat)
 |[]=>[[]]
 |x::xs=>subsG xs++(subsG xs).map (x:: ·)
theorem filter_subsG (p:Nat->Bool):∀G:List Nat,G.filter p∈subsG G
 |[]=>by simp[subsG]
 |x::xs=>by
  rw[subsG,List.mem_append,List.mem_map,List.filter_cons];by_cases h:p x=true
  ·rw[if_pos h];exact .inr ⟨_,filter_subsG p xs,rfl⟩
  ·rw[if_neg h];exact .inl (filter_subsG p xs)
def waitsG (md:Region.Mode) (ops:Array Oper) (i j:Nat):Bool:=match ops[i]? with|some o=>o.after.any (fun e=>Region.binds md e&&e.on==j)|none=>false
def closedG (md:Region.Mode) (ops:Array Oper) (G m:List Nat):Bool:=m.all fun i=>G.all fun j=> !waitsG md ops i j||m.contains j
def groupOk (md:Region.Mode) (ops:Array Oper) (listed:Array Bool) (G U:List Nat):Bool:=
 decide G.Nodup&&G.all (fun i=> !U.contains i&& !listed.getD i false)&&
 (subsG G).all fun m=> !closedG md ops G m||m.length==G.length||(!(Region.ready md ops (markG listed m)).isEmpty&&(Region.ready md ops (markG listed m)).all G.contains)
theorem group_len {G m:List Nat} {i:Nat} (hnd:G.Nodup) (hi:i∈G) (hm:i∉m):(G.filter fun k=> !(i::m).contains k).length+1=(G.filter fun k=> !m.contains k).length:=by
 induction G with
 |nil=>cases hi
 |cons x xs ih=>
  rw[List.nodup_cons]at hnd;by_cases hx:x=i
  ·subst hx
   have e:(xs.filter fun k=> !(x::m).contains k)=xs.filter fun k=> !m.contains k:=by
    apply List.filter_congr;intro k hk;have:k≠x:=fun e=>hnd.1 (e▸hk)
    simp[this]
   rw[List.filter_cons,List.filter_cons,if_neg (by simp),if_pos (by simpa using hm),e,List.length_cons]
  ·have hi':=(List.mem_cons.1 hi).resolve_left fun e=>hx e.symm
   have:=ih hnd.2 hi';rw[List.filter_cons,List.filter_cons];by_cases hxm:x∈m
   ·rw[if_neg (by simp[hxm]),if_neg (by simpa using hxm)];exact this
   ·rw[if_pos (by simp[hxm,hx]),if_pos (by simpa using hxm),List.length_cons,List.length_cons];omega
theorem wpAnyT_group (G:List Nat) (I:List Nat->Act->World->Prop) {n fuel:Nat} {listed:Array Bool} {a:Act} {w:World} (hf:fuel=n+G.length) (hG:groupOk md ops listed G U=true)
  (h0:I [] a w) (hS:S w)
  (hstep:∀(m:List Nat) (i:Nat) (a:Act) (w:World),i∈G->i∉m->(∀j,G.contains j=true->waitsG md ops i j=true->j∈m)->I m a w->S w->wpOp P ops Q i (fun a' w'=>S w'/\I (i::m) a' w') a w)
  (hdone:∀(m:List Nat) (a:Act) (w:World),(∀j,G.contains j=true->j∈m)->I m a w->S w->wpAnyT P md ops Q S U n (markG listed G) a w):
  wpAnyT P md ops Q S U fuel listed a w:=by
 unfold groupOk at hG;rw[Bool.and_eq_true,Bool.and_eq_true,decide_eq_true_iff,List.all_eq_true,List.all_eq_true]at hG;obtain⟨⟨hnd,hout⟩,hall⟩:=hG;have key:∀(r:Nat) (m:List Nat) (a:Act) (w:World),(G.filter fun k=> !m.contains k).length=r->(∀k∈m,k∈G)->(∀i∈m,∀j∈G,waitsG md ops i j=true->j∈m)->I m a w->S w->wpAnyT P md ops Q S U (n+r) (markG listed m) a w:=by
  intro r;induction r with
  |zero=>
   intro m a w hr hsub hcl hI hS;have hin:∀j∈G,j∈m:=fun j hj=>by
    have:=List.eq_nil_of_length_eq_zero hr;rw[List.filter_eq_nil_iff]at this;have:=this j hj;simpa using this
   rw[markG_congr listed (m:=m) (m':=G) fun k=>⟨hsub k,hin k⟩];exact hdone m a w (fun j hj=>hin j (by simpa using hj)) hI hS
  |succ r ih=>
   intro m a w hr hsub hcl hI hS;have hm':=hall _ (filter_subsG (fun k=>m.contains k) G);have hne:(G.filter fun k=>m.contains k).length≠G.length:=fun e=>by
    have h1:=List.length_filter_eq_length_iff.1 e;have h2:(G.filter fun k=> !m.contains k)=[]:=by
     rw[List.filter_eq_nil_iff];intro k hk;have:=h1 k hk;rw[this];simp
    rw[h2]at hr;simp at hr
   have hclF:closedG md ops G (G.filter fun k=>m.contains k)=true:=by
    unfold closedG;rw[List.all_eq_true];intro i hi;rw[List.all_eq_true];intro j hj;rw[List.mem_filter]at hi;cases hwt:waitsG md ops i j with
    |false=>rfl
    |true=>
     have:=hcl i (by simpa using hi.2) j hj hwt;simp[hj,this]
   rw[hclF,Bool.or_eq_true,Bool.or_eq_true,beq_iff_eq,Bool.and_eq_true,List.all_eq_true]at hm';have hm2:=hm'.resolve_left (fun h=>h.elim (fun h=>by cases h) hne);rw[markG_congr listed (m:=G.filter fun k=>m.contains k) (m':=m) fun k=>⟨fun h=>by simpa using(List.mem_filter.1 h).2,fun h=>List.mem_filter.2 ⟨hsub k h,by simpa using h⟩⟩]at hm2;refine⟨fun h=>(by rw[h]at hm2;simp at hm2),fun i hi=> ?_⟩;have hiG:i∈G:=by simpa using hm2.2 i hi
   obtain⟨hun,o,ho,hdep⟩:=mem_ready.1 hi;have him:i∉m:=fun h=>by rw[markG_in listed i m h]at hun;cases hun
   have hw:∀j,G.contains j=true->waitsG md ops i j=true->j∈m:=fun j hj hwj=>by
    unfold waitsG at hwj;rw[ho]at hwj;simp only at hwj;rw[Array.any_eq_true]at hwj;obtain⟨k,hk,h2⟩:=hwj;rw[Bool.and_eq_true,beq_iff_eq]at h2;have h3:=hdep _ (Array.getElem_mem hk) h2.1;rw[h2.2]at h3;refine Classical.byContradiction fun hjm=> ?_
    rw[markG_get listed j m hjm]at h3;have h4:=hout j (by simpa using hj);rw[h3]at h4;simp at h4
   refine wpOp_mono (fun a' w' h=>⟨fun _=>h.1,ih (i::m) a' w' ?_ ?_ ?_ h.2 h.1⟩) (hstep m i a w hiG him hw hI hS)
   ·have:=group_len hnd hiG him
    omega
   ·intro k hk
    rcases List.mem_cons.1 hk with rfl|hk
    ·exact hiG
    ·exact hsub k hk
   ·intro k hk j hj hwk
    rcases List.mem_cons.1 hk with rfl|hk
    ·exact List.mem_cons_of_mem _ (hw j (by simpa using hj) hwk)
    ·exact List.mem_cons_of_mem _ (hcl k hk j hj hwk)
 have h:=key _ [] a w rfl (fun k hk=>by cases hk) (fun k hk=>by cases hk) h0 hS;have e:(G.filter fun k=> !([]:List Nat).contains k)=G:=by
  rw[List.filter_eq_self];intro k _;simp
 rw[e]at h;rw[hf];exact h
theorem wpAnyT_groupA (G:List Nat) (I:Act->List Nat->Act->World->Prop) {n fuel:Nat} {listed:Array Bool} {a:Act} {w:World} (hf:fuel=n+G.length) (hG:groupOk md ops listed G U=true)
  (h0:I a [] a w) (hS:S w)
  (hstep:∀(m:List Nat) (i:Nat) (b:Act) (w:World),i∈G->i∉m->(∀j,G.contains j=true->waitsG md ops i j=true->j∈m)->I a m b w->S w->wpOp P ops Q i (fun a' w'=>S w'/\I a (i::m) a' w') b w)
  (hdone:∀(m:List Nat) (b:Act) (w:World),(∀j,G.contains j=true->j∈m)->I a m b w->S w->wpAnyT P md ops Q S U n (markG listed G) b w):
  wpAnyT P md ops Q S U fuel listed a w:=wpAnyT_group G (I a) hf hG h0 hS hstep hdone
def updV (val:Nat->Value) (i:Nat) (v:Value) (k:Nat):Value:=if k=i then v else val k
theorem updV_at (val:Nat->Value) (i:Nat) (v:Value):updV val i v i=v:=if_pos rfl
theorem updV_ne (val:Nat->Value) {i k:Nat} (v:Value) (h:k≠i):updV val i v k=val k:=if_neg h
structure Gr {α:Type} (R:World->Value->α->Prop) (T:TypeId) (z:Array Value) (vars:List Nat) (gots:List (Nat×α)) (Wb V:World) (m:List Nat) (val:Nat->Value):Prop where
 bel:Below Wb.heap.size Wb V
 made:∀i∈vars,i∈m->∃x,val i=.pointer (some ⟨x,0,none⟩)/\Wb.heap.size<=x/\V.heap[x]? =some (.cells z T (0,0))
 got:∀g∈gots,g.1∈m->R V (val g.1) g.2
 apart:∀i∈vars,∀j∈vars,i∈m->j∈m->i≠j->val i≠val j
section
variable {α : Type} {R : World → Value → α → Prop} {T : TypeId} {z : Array Value} {vars : List Nat} {gots : List (Nat × α)} {Wb V V' : World} {m : List Nat} {val : Nat → Value}
theorem Gr.start (Wb:World):Gr R T z vars gots Wb Wb [] val:=⟨Below.refl _ _,fun _ _ h=>(by cases h),fun _ _ h=>(by cases h),fun _ _ _ _ h=>(by cases h)⟩
theorem Gr.call (hR:∀A B v x,R A v x->Below A.heap.size A B->R B v x) (h:Gr R T z vars gots Wb V m val) (hb:Below V.heap.size V V') {i:Nat} {v:Value} (hi:∀j∈vars,j≠i) (hg:∀g∈gots,g.1=i->R V' v g.2):
  Gr R T z vars gots Wb V' (i::m) (updV val i v):=by
 refine⟨tW h.bel hb,fun j hj hm=> ?_,fun g hgg hm=> ?_,fun j hj k hk hjm hkm hne=> ?_⟩
 ·have hji:=hi j hj
  obtain⟨x,h1,h2,h3⟩:=h.made j hj ((List.mem_cons.1 hm).resolve_left hji);exact⟨x,(updV_ne val v hji).trans h1,h2,kW hb h3⟩
 ·by_cases e:g.1=i
  ·have h1:=hg g hgg e
   rw[e,updV_at];exact h1
  ·rw[updV_ne val v e]
   exact hR _ _ _ _ (h.got g hgg ((List.mem_cons.1 hm).resolve_left e)) hb
 ·rw[updV_ne val v (hi j hj),updV_ne val v (hi k hk)]
  exact h.apart j hj k hk ((List.mem_cons.1 hjm).resolve_left (hi j hj)) ((List.mem_cons.1 hkm).resolve_left (hi k hk)) hne
theorem Gr.alloc (hR:∀A B v x,R A v x->Below A.heap.size A B->R B v x) (h:Gr R T z vars gots Wb V m val) {i:Nat} (hg:∀g∈gots,g.1≠i):
  Gr R T z vars gots Wb (V.alloc (.cells z T)) (i::m) (updV val i (.pointer (some ⟨V.heap.size,0,none⟩))):=by
 have hb:=Below.newly' V (.cells z T);have hlt:∀j∈vars,j∈m->val j≠.pointer (some ⟨V.heap.size,0,none⟩):=fun j hj hm e=>by
  obtain⟨x,h1,_,h3⟩:=h.made j hj hm;rw[h1]at e;simp only[Value.pointer.injEq,Option.some.injEq,Addr.mk.injEq]at e;have:=(gZ h3)
  omega
 refine⟨tW h.bel hb,fun j hj hm=> ?_,fun g hgg hm=> ?_,fun j hj k hk hjm hkm hne=> ?_⟩
 ·by_cases e:j=i
  ·rw[e,updV_at]
   exact⟨_,rfl,h.bel.size,heap_alloc_last _ _⟩
  ·rw[updV_ne val _ e]
   obtain⟨x,h1,h2,h3⟩:=h.made j hj ((List.mem_cons.1 hm).resolve_left e);exact⟨x,h1,h2,kW hb h3⟩
 ·rw[updV_ne val _ (hg g hgg)]
  exact hR _ _ _ _ (h.got g hgg ((List.mem_cons.1 hm).resolve_left (hg g hgg))) hb
 ·by_cases e:j=i
  ·have hk2:k≠i:=fun e'=>hne (e.trans e'.symm)
   rw[e,updV_at,updV_ne val _ hk2];exact(hlt k hk ((List.mem_cons.1 hkm).resolve_left hk2)).symm
  ·by_cases e':k=i
   ·rw[e',updV_at,updV_ne val _ e]
    exact hlt j hj ((List.mem_cons.1 hjm).resolve_left e)
   ·rw[updV_ne val _ e,updV_ne val _ e']
    exact h.apart j hj k hk ((List.mem_cons.1 hjm).resolve_left e) ((List.mem_cons.1 hkm).resolve_left e') hne
end
theorem group_one {i:Nat} {o:Oper} {I:Act->World->Prop} {a:Act} {w:World} (ho:ops[i]? =some o)
  (h:∀K':Act->World->Prop,Shut (∀a w,S w->I a w->K' a w)->if Region.wanted o (yielded ops a.tmps)=true then Oper.wp P o a w K' Q else K' (a.put o.dst undef) w):wpOp P ops Q i (fun a' w'=>S w'/\I a' w') a w:=
 wpOp_step ho (fun K' hK=>h K' (fun a w hS hI=>hK a w ⟨hS,hI⟩))
end
end Go.Proofs.YtengibnpebfblaaGreatDoor
namespace Go.Proofs.YtengibnpebfblaaGreatDoor
open Go.RowKit
def cntD (xs:List Tr) (i:Nat):Nat:=xs.countP fun x=>decide (depT x=i+1)
theorem cntD_app (xs ys:List Tr) (i:Nat):cntD (xs++ys) i=cntD xs i+cntD ys i:=by simp[cntD,List.countP_append]
theorem cntD_perm {xs ys:List Tr} (h:xs.Perm ys) (i:Nat):cntD xs i=cntD ys i:=h.countP_eq _
theorem cntD_one (x:Tr) (i:Nat):cntD [x] i=if depT x=i+1 then 1 else 0:=by simp[cntD,List.countP_cons]
theorem cntD_le (xs:List Tr) (i:Nat):cntD xs i<=xs.length:=List.countP_le_length
theorem cntD_out {xs:List Tr} {i:Nat} (h:depL xs<=i):cntD xs i=0:=by
 unfold cntD;rw[List.countP_eq_zero];intro x hx;have:=depL_mem hx;simp;omega
def tal (xs:List Tr):List Int:=(List.range (depL xs)).map fun i=>(cntD xs i:Int)
theorem tal_len (xs:List Tr):(tal xs).length=depL xs:=by simp[tal]
theorem tal_get (xs:List Tr) (i:Nat):(tal xs).getD i 0=(cntD xs i:Int):=by
 by_cases h:i<depL xs
 ·simp[tal,List.getD_eq_getElem?_getD,h]
 ·rw[List.getD_eq_getElem?_getD,List.getElem?_eq_none (by rw[tal_len];omega),cntD_out (by omega)]
  rfl
theorem tal_of {l:List Int} {xs:List Tr} (h1:l.length=depL xs) (h2:∀i,i<l.length->l.getD i 0=(cntD xs i:Int)):l=tal xs:=by
 apply List.ext_getElem (by rw[h1,tal_len]);intro i hi hj;have:=(h2 i hi).trans (tal_get xs i).symm;rw[List.getD_eq_getElem?_getD,List.getD_eq_getElem?_getD,List.getElem?_eq_getElem hi,List.getElem?_eq_getElem hj]at this;exact this
theorem tal_perm {xs ys:List Tr} (h:xs.Perm ys):tal xs=tal ys:=
 tal_of (by rw[tal_len,depL_perm h]) fun i _=>by rw[tal_get,cntD_perm h]
theorem tal_one (x:Tr):tal [x]=List.replicate (depT x-1) 0++[1]:=by
 have hp:=dep_pos x;refine(tal_of (by simp[depL];omega) fun i hi=> ?_).symm;rw[cntD_one];simp only[List.length_append,List.length_replicate,List.length_singleton]at hi;rw[List.getD_eq_getElem?_getD];by_cases h:i<depT x-1
 ·rw[List.getElem?_append_left (by simpa using h),if_neg (by omega)]
  simp[h]
 ·rw[List.getElem?_append_right (by simp;omega),if_pos (by omega)]
  simp[show i-(depT x-1)=0 by omega]
def plusI (a b:List Int):List Int:=(List.range (max a.length b.length)).map fun i=>a.getD i 0+b.getD i 0
theorem plusI_len (a b:List Int):(plusI a b).length=max a.length b.length:=by simp[plusI]
theorem plusI_get (a b:List Int) {i:Nat} (h:i<max a.length b.length):(plusI a b).getD i 0=a.getD i 0+b.getD i 0:=by simp[plusI,List.getD_eq_getElem?_getD,h]
theorem plus_tal (xs ys:List Tr):plusI (tal xs) (tal ys)=tal (xs++ys):=
 tal_of (by rw[plusI_len,tal_len,tal_len,depL_app]) fun i hi=>by
  rw[plusI_len]at hi;rw[plusI_get _ _ hi,tal_get,tal_get,cntD_app];omega
end Go.Proofs.YtengibnpebfblaaGreatDoor
