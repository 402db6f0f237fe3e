import Derived.Test.YtengibnpebfblaaGreatDoorB46
import Derived.Test.YtengibnpebfblaaGreatDoorB49
set_option maxRecDepth 1000000
set_option maxHeartbeats 8000000
set_option linter.unusedSimpArgs false
namespace Go.Proofs.YtengibnpebfblaaGreatDoor
open Go.RowKit
theorem txV_nil12 (w:World):TxV w (.slice none 0 0) []:=⟨none,0,0,0,rfl,fun h=>absurd h (by decide),fun j h=>absurd h (by simp),by decide⟩
theorem trV_lf (w:World) {k n:Int} (hk:InR k) (hn:InR n):TrV w (.nd k n ⟨#[]⟩ [] []) (.agg (trC k n ⟨#[]⟩ (.slice none 0 0) (.slice none 0 0))):=by
 rw[TrV];exact⟨_,_,rfl,by decide,hk,hn,⟨none,0,0,0,rfl,fun h=>absurd h (by decide),fun j h=>absurd h (by simp),by decide⟩,none,0,0,0,rfl,fun h=>absurd h (by decide),by decide,by rw[Go.Proofs.YtengibnpebfblaaGreatDoor.TrL];trivial⟩
def lnN (i:Nat):Int:=if i=2 then-1 else 0
def lfT (i:Nat):Tr:=.nd (i:Int) (lnN i) ⟨#[]⟩ [] []
theorem lf_ok (i:Nat) (h:i<7):OkT (lfT i):=by
 unfold lfT;rw[OkT,OkL];refine⟨own_ok.2 ?_,trivial,fun _=>by rw[canL];exact List.nodup_nil⟩
 match i,h with
 |0,_=>exact .inl ⟨by decide,by decide,by decide,rfl,rfl⟩
 |1,_=>exact .inl ⟨by decide,by decide,by decide,rfl,rfl⟩
 |2,_=>exact .inl ⟨by decide,by decide,by decide,rfl,rfl⟩
 |3,_=>exact .inl ⟨by decide,by decide,by decide,rfl,rfl⟩
 |4,_=>exact .inr ⟨rfl,rfl,.inl ⟨rfl,rfl⟩⟩
 |5,_=>exact .inr ⟨rfl,rfl,.inr (.inl ⟨rfl,rfl,List.nodup_nil⟩)⟩
 |6,_=>exact .inr ⟨rfl,rfl,.inr (.inr ⟨rfl,rfl⟩)⟩
 |k+7,h=>exact absurd h (by omega)
theorem lf_can (i:Nat):canT (lfT i)=lfT i:=by
 unfold lfT;rw[canT];split
 ·simp[canL,srtB]
 ·split
  ·simp[canL,srtB]
  ·rw[canL]
theorem lf_nod (i:Nat):nodT (lfT i)=1:=by unfold lfT;simp[nodT,nodL]
theorem lf_dep (i:Nat):depT (lfT i)<=2:=by unfold lfT;simp[depT,depL];try split
theorem lf_chk (i:Nat) (h:i<7):chkT (lfT i)=0:=chkT_ok.2 ⟨lf_ok i h,Nat.le_trans (lf_dep i) (by decide),by rw[lf_nod];decide⟩
theorem lf_few (i:Nat):FewT 2000 (lfT i):=by unfold lfT;rw[FewT,FewL];exact⟨Nat.zero_le _,trivial⟩
theorem lf_txt (i:Nat):TxtT 3000 (lfT i):=by unfold lfT;rw[TxtT,TxtL];exact⟨Nat.zero_le _,by simp,trivial⟩
theorem lf_rng (i:Nat) (h:i<7):InR (i:Int)/\InR (lnN i):=⟨by unfold InR;omega,by unfold lnN InR;split<;>omega⟩
theorem lf_val (i:Nat) (h:i<7):ValB (lfT i):=by
 have h1:=valB_can (lf_ok i h) (Nat.le_trans (lf_dep i) (by decide)) (by rw[lf_nod];decide) (by unfold lfT;rw[RngT,RngL];exact⟨(lf_rng i h).2,trivial⟩) (lf_txt i);rwa[lf_can]at h1
theorem lf_o (i:Nat) (h:i<7):valO (lfT i)=lfT i:=by unfold valO;rw[if_pos (lf_chk i h),lf_can]
def lkey:Nat->List UInt8
 |0=>[1]
 |1=>[2,0]
 |2=>[3,127,255,255,255,255,255,255,255]
 |3=>[4,0,0]
 |4=>[5,0]
 |5=>[6,0]
 |_=>[7,0]
theorem lf_key (i:Nat) (h:i<7):keyT (lfT i)=lkey i:=by
 match i,h with
 |0,_=>unfold lfT;rw[keyT,if_pos (by decide)];decide
 |1,_=>unfold lfT;rw[keyT,if_pos (by decide)];decide
 |2,_=>unfold lfT;rw[keyT,if_pos (by decide)];decide
 |3,_=>unfold lfT;rw[keyT,if_pos (by decide)];decide
 |4,_=>unfold lfT;rw[keyT,if_neg (by decide),keyL];decide
 |5,_=>unfold lfT;rw[keyT,if_neg (by decide),keyL];decide
 |6,_=>unfold lfT;rw[keyT,if_neg (by decide),keyL];decide
 |k+7,h=>exact absurd h (by omega)
theorem lf_ord (i:Nat) (h:i<6):ordT (lfT i) (lfT (i+1))= -1/\ordT (lfT (i+1)) (lfT i)=1:=by
 unfold ordT;rw[lf_key i (by omega),lf_key (i+1) (by omega)]
 match i,h with
 |0,_=>decide
 |1,_=>decide
 |2,_=>decide
 |3,_=>decide
 |4,_=>decide
 |5,_=>decide
 |k+6,h=>exact absurd h (by omega)
def v1T:Tr:=.nd 4 0 ⟨#[]⟩ [] [lfT 2]
def v2T:Tr:=.nd 4 0 ⟨#[]⟩ [] [lfT 2,lfT 0]
theorem v1_ok:OkT v1T:=by
 unfold v1T;rw[OkT,OkL,OkL];exact⟨own_ok.2 (.inr ⟨rfl,rfl,.inl ⟨rfl,rfl⟩⟩),⟨lf_ok 2 (by decide),trivial⟩,fun h=>absurd h (by decide)⟩
theorem v2_ok:OkT v2T:=by
 unfold v2T;rw[OkT,OkL,OkL,OkL];exact⟨own_ok.2 (.inr ⟨rfl,rfl,.inl ⟨rfl,rfl⟩⟩),⟨lf_ok 2 (by decide),lf_ok 0 (by decide),trivial⟩,fun h=>absurd h (by decide)⟩
theorem v1_can:canT v1T=v1T:=by
 unfold v1T;rw[canT,if_neg (by decide),if_neg (by decide),canL,canL,lf_can]
theorem v2_can:canT v2T=v2T:=by
 unfold v2T;rw[canT,if_neg (by decide),if_neg (by decide),canL,canL,canL,lf_can,lf_can]
theorem v1_chk:chkT v1T=0/\nodT v1T=2/\depT v1T<=3:=by
 have h1:nodT v1T=2:=by unfold v1T;simp[nodT,nodL,lf_nod]
 have h2:depT v1T<=3:=by unfold v1T;have:=lf_dep 2;simp[depT,depL];omega
 exact⟨chkT_ok.2 ⟨v1_ok,by omega,by omega⟩,h1,h2⟩
theorem v2_chk:chkT v2T=0/\nodT v2T=3/\depT v2T<=3:=by
 have h1:nodT v2T=3:=by unfold v2T;simp[nodT,nodL,lf_nod]
 have h2:depT v2T<=3:=by unfold v2T;have:=lf_dep 2;have:=lf_dep 0;simp[depT,depL];omega
 exact⟨chkT_ok.2 ⟨v2_ok,by omega,by omega⟩,h1,h2⟩
theorem v1_few:FewT 2000 v1T/\TxtT 3000 v1T/\RngT v1T:=by
 unfold v1T;rw[FewT,FewL,FewL,TxtT,TxtL,TxtL,RngT,RngL,RngL];exact⟨⟨Nat.zero_le _,lf_few 2,trivial⟩,⟨Nat.zero_le _,by simp,lf_txt 2,trivial⟩,by decide,by unfold lfT;rw[RngT,RngL];exact⟨(lf_rng 2 (by decide)).2,trivial⟩,trivial⟩
theorem v2_few:FewT 2000 v2T/\TxtT 3000 v2T/\RngT v2T:=by
 unfold v2T;rw[FewT,FewL,FewL,FewL,TxtT,TxtL,TxtL,TxtL,RngT,RngL,RngL,RngL];exact⟨⟨Nat.zero_le _,lf_few 2,lf_few 0,trivial⟩,⟨Nat.zero_le _,by simp,lf_txt 2,lf_txt 0,trivial⟩,by decide,by unfold lfT;rw[RngT,RngL];exact⟨(lf_rng 2 (by decide)).2,trivial⟩,by unfold lfT;rw[RngT,RngL];exact⟨(lf_rng 0 (by decide)).2,trivial⟩,trivial⟩
theorem v1_val:ValB v1T/\valO v1T=v1T:=by
 have h1:=valB_can v1_ok (Nat.le_trans v1_chk.2.2 (by decide)) (by rw[v1_chk.2.1];decide) v1_few.2.2 v1_few.2.1;rw[v1_can]at h1;exact⟨h1,by unfold valO;rw[if_pos v1_chk.1,v1_can]⟩
theorem v2_val:ValB v2T/\valO v2T=v2T:=by
 have h1:=valB_can v2_ok (Nat.le_trans v2_chk.2.2 (by decide)) (by rw[v2_chk.2.1];decide) v2_few.2.2 v2_few.2.1;rw[v2_can]at h1;exact⟨h1,by unfold valO;rw[if_pos v2_chk.1,v2_can]⟩
theorem v12_ord:ordT v1T v2T= -1/\ordT v1T v1T=0:=by
 have k1:keyT v1T=[5,3,127,255,255,255,255,255,255,255,0]:=by
  unfold v1T;rw[keyT,if_neg (by decide),keyL,keyL,lf_key 2 (by decide)];decide
 have k2:keyT v2T=[5,3,127,255,255,255,255,255,255,255,1,0]:=by
  unfold v2T;rw[keyT,if_neg (by decide),keyL,keyL,keyL,lf_key 2 (by decide),lf_key 0 (by decide)];decide
 unfold ordT;rw[k1,k2];exact⟨by decide,by decide⟩
theorem ord_self (a:Tr):ordT a a=0:=by unfold ordT orderS;rw[if_pos rfl]
theorem lf_range {w:World} {g:Nat} (h:w.heap[g]? =some (.cells #[.int .i64 0,.int .i64 0,.string ⟨#[]⟩,.slice none 0 0,.slice none 0 0,.int .i64 1,.int .i64 0,.string ⟨#[]⟩,.slice none 0 0,.slice none 0 0,.int .i64 2,.int .i64 (-1),.string ⟨#[]⟩,.slice none 0 0,.slice none 0 0,.int .i64 3,.int .i64 0,.string ⟨#[]⟩,.slice none 0 0,.slice none 0 0,.int .i64 4,.int .i64 0,.string ⟨#[]⟩,.slice none 0 0,.slice none 0 0,.int .i64 5,.int .i64 0,.string ⟨#[]⟩,.slice none 0 0,.slice none 0 0,.int .i64 6,.int .i64 0,.string ⟨#[]⟩,.slice none 0 0,.slice none 0 0] 28 (0,0))):∀i,i<7->w.rangeAt g (i*5) (trC (i:Int) (lnN i) ⟨#[]⟩ (.slice none 0 0) (.slice none 0 0)).toList:=fun i hi j v hv=>by
 refine cell_in h ?_
 match i,hi,hv with
 |0,_,hv=>
  match j,hv with
  |0,hv=>exact hv
  |1,hv=>exact hv
  |2,hv=>exact hv
  |3,hv=>exact hv
  |4,hv=>exact hv
  |k+5,hv=>simp at hv
 |1,_,hv=>
  match j,hv with
  |0,hv=>exact hv
  |1,hv=>exact hv
  |2,hv=>exact hv
  |3,hv=>exact hv
  |4,hv=>exact hv
  |k+5,hv=>simp at hv
 |2,_,hv=>
  match j,hv with
  |0,hv=>exact hv
  |1,hv=>exact hv
  |2,hv=>exact hv
  |3,hv=>exact hv
  |4,hv=>exact hv
  |k+5,hv=>simp at hv
 |3,_,hv=>
  match j,hv with
  |0,hv=>exact hv
  |1,hv=>exact hv
  |2,hv=>exact hv
  |3,hv=>exact hv
  |4,hv=>exact hv
  |k+5,hv=>simp at hv
 |4,_,hv=>
  match j,hv with
  |0,hv=>exact hv
  |1,hv=>exact hv
  |2,hv=>exact hv
  |3,hv=>exact hv
  |4,hv=>exact hv
  |k+5,hv=>simp at hv
 |5,_,hv=>
  match j,hv with
  |0,hv=>exact hv
  |1,hv=>exact hv
  |2,hv=>exact hv
  |3,hv=>exact hv
  |4,hv=>exact hv
  |k+5,hv=>simp at hv
 |6,_,hv=>
  match j,hv with
  |0,hv=>exact hv
  |1,hv=>exact hv
  |2,hv=>exact hv
  |3,hv=>exact hv
  |4,hv=>exact hv
  |k+5,hv=>simp at hv
 |k+7,hi,_=>exact absurd hi (by omega)
theorem trV_v1 {w:World} {g:Nat} (h:w.heap[g]? =some (.cells #[.int .i64 2,.int .i64 (-1),.string ⟨#[]⟩,.slice none 0 0,.slice none 0 0] 28 (0,0))):TrV w v1T (.agg (trC 4 0 ⟨#[]⟩ (.slice none 0 0) (.slice (some ⟨g,0,none⟩) 1 1))):=by
 unfold v1T;rw[TrV];refine⟨_,_,rfl,by decide,by decide,by decide,txV_nil12 _,some ⟨g,0,none⟩,1,g,0,rfl,fun _=>rfl,by simp;decide,?_⟩;rw[Go.Proofs.YtengibnpebfblaaGreatDoor.TrL,Go.Proofs.YtengibnpebfblaaGreatDoor.TrL];refine⟨⟨_,rfl,?_,trV_lf _ (k:=2) (n:= -1) (by decide) (by decide)⟩,trivial⟩;intro j u hu;refine cell_in h ?_
 match j,hu with
 |0,hu=>exact hu
 |1,hu=>exact hu
 |2,hu=>exact hu
 |3,hu=>exact hu
 |4,hu=>exact hu
 |k+5,hu=>simp at hu
theorem trV_v2 {w:World} {g:Nat} (h:w.heap[g]? =some (.cells #[.int .i64 2,.int .i64 (-1),.string ⟨#[]⟩,.slice none 0 0,.slice none 0 0,.int .i64 0,.int .i64 0,.string ⟨#[]⟩,.slice none 0 0,.slice none 0 0] 28 (0,0))):TrV w v2T (.agg (trC 4 0 ⟨#[]⟩ (.slice none 0 0) (.slice (some ⟨g,0,none⟩) 2 2))):=by
 unfold v2T;rw[TrV];refine⟨_,_,rfl,by decide,by decide,by decide,txV_nil12 _,some ⟨g,0,none⟩,2,g,0,rfl,fun _=>rfl,by simp;decide,?_⟩;rw[Go.Proofs.YtengibnpebfblaaGreatDoor.TrL,Go.Proofs.YtengibnpebfblaaGreatDoor.TrL,Go.Proofs.YtengibnpebfblaaGreatDoor.TrL];refine⟨⟨_,rfl,?_,trV_lf _ (k:=2) (n:= -1) (by decide) (by decide)⟩,⟨_,rfl,?_,trV_lf _ (k:=0) (n:=0) (by decide) (by decide)⟩,trivial⟩
 ·intro j u hu
  refine cell_in h ?_
  match j,hu with
  |0,hu=>exact hu
  |1,hu=>exact hu
  |2,hu=>exact hu
  |3,hu=>exact hu
  |4,hu=>exact hu
  |k+5,hu=>simp at hu
 ·intro j u hu
  refine cell_in h ?_
  match j,hu with
  |0,hu=>exact hu
  |1,hu=>exact hu
  |2,hu=>exact hu
  |3,hu=>exact hu
  |4,hu=>exact hu
  |k+5,hu=>simp at hu
theorem lw_live12 (w:World) (hT:Tab6 w):Calls Tryz.prog 9 #[] w fun e w'=>e=.returned (.bool true)/\Below w.heap.size w w':=by
 have HT:=iH hT;have HW:Hid (Below w.heap.size w w):=Below.refl _ _;clear hT;go_enter Tryz.func9,Tryz.ntmps9;go_upto_region 3 with(first
  |(refine st_agg rfl 24 _ _ rfl w.heap.size #[.int .u64 0,.int .i64 4] rfl rfl 24 #[.int .u64 0,.int .i64 0] (heap_alloc_last _ _) conf_size12 rfl (by simp[Value.oneCell']) ?_;intro w2 h2 k2;have H2:=iH h2;replace HW:=iH ((Below.newly' w (.cells #[.int .u64 0,.int .i64 0] 24)).trans (k2.below (Nat.le_refl _)));clear h2 k2))
 obtain⟨G,hG⟩:∃G,G=w2.heap.size:=⟨_,rfl⟩
 obtain⟨w3,hw3⟩:∃w3,w3=w2.alloc (.cells #[.int .i64 0,.int .i64 0,.string ⟨#[]⟩,.slice none 0 0,.slice none 0 0,.int .i64 1,.int .i64 0,.string ⟨#[]⟩,.slice none 0 0,.slice none 0 0,.int .i64 2,.int .i64 (-1),.string ⟨#[]⟩,.slice none 0 0,.slice none 0 0,.int .i64 3,.int .i64 0,.string ⟨#[]⟩,.slice none 0 0,.slice none 0 0,.int .i64 4,.int .i64 0,.string ⟨#[]⟩,.slice none 0 0,.slice none 0 0,.int .i64 5,.int .i64 0,.string ⟨#[]⟩,.slice none 0 0,.slice none 0 0,.int .i64 6,.int .i64 0,.string ⟨#[]⟩,.slice none 0 0,.slice none 0 0] 28):=⟨_,rfl⟩
 have hb3:Below w2.heap.size w2 w3:=by rw[hw3];exact Below.newly' _ _
 have h3:w3.heap[G]? =some (.cells #[.int .i64 0,.int .i64 0,.string ⟨#[]⟩,.slice none 0 0,.slice none 0 0,.int .i64 1,.int .i64 0,.string ⟨#[]⟩,.slice none 0 0,.slice none 0 0,.int .i64 2,.int .i64 (-1),.string ⟨#[]⟩,.slice none 0 0,.slice none 0 0,.int .i64 3,.int .i64 0,.string ⟨#[]⟩,.slice none 0 0,.slice none 0 0,.int .i64 4,.int .i64 0,.string ⟨#[]⟩,.slice none 0 0,.slice none 0 0,.int .i64 5,.int .i64 0,.string ⟨#[]⟩,.slice none 0 0,.slice none 0 0,.int .i64 6,.int .i64 0,.string ⟨#[]⟩,.slice none 0 0,.slice none 0 0] 28 (0,0)):=by rw[hw3,hG];exact heap_alloc_last _ _
 rw[<-hw3,<-hG];have h2:=kW hb3 H2.out;have HKC:Hid (∀V,Below w3.heap.size w3 V->V.heap[w.heap.size]? =some (.cells #[.int .u64 0,.int .i64 4] 24 (0,0))/\∀i,i<7->V.rangeAt G (i*5) (trC (i:Int) (lnN i) ⟨#[]⟩ (.slice none 0 0) (.slice none 0 0)).toList):=fun V hb=>
  ⟨kW hb h2,fun i hi=>rangeAt_later (lf_range h3 i hi) hb⟩
 have HB3:=iH (tW HW.out hb3);have HT3:=iH (fun V (hb:Below w3.heap.size w3 V)=>(HT.out.below HB3.out).below hb);have HOL:Hid (∀(i:Nat),i<7->∀W,Below w3.heap.size w3 W->Calls Tryz.prog 11 #[.agg #[.int .u64 0,.int .i64 4],.agg (trC (i:Int) (lnN i) ⟨#[]⟩ (.slice none 0 0) (.slice none 0 0))] W fun e w'=>∃y,e=.returned (.agg (celC y))/\VAt (fun _=>True) w' (lfT i) y/\Below W.heap.size W w'):=fun i hi W hb=>by
  have h:=lw_of 0 4 (lfT i) _ W (by decide) (trV_lf W (lf_rng i hi).1 (lf_rng i hi).2) (lf_few i) (lf_txt i) (by rw[lf_nod];decide) (HT3.out W hb);rw[lf_o i hi]at h;exact h.mono fun e w' h=>by
   obtain⟨y,h1,h2,h3⟩:=h;exact⟨y,h1,h2.weak fun _ _=>trivial,h3⟩
 clear hG hw3 hb3 h3 h2 H2 HW HT;go_wp2_with fail
 go_loopw [3,18] (fun x i W=>∃j:Nat,j<=6/\i=.int .i64 (j:Int)/\Below w3.heap.size w3 W) (fun _ i _=>6-(intOf i).toNat)
 case atStart=>exact⟨0,by decide,rfl,Below.refl _ _⟩
 case round=>
  obtain⟨i,hi6,rfl,hbw⟩:=hrel;have HWR:=iH hbw;clear hbw;by_cases hlt:i<6
  case pos=>
   have hlt':(i:Int)<6:=by omega
   have i0:(0:Int)<=(i:Int):=by omega
   have i7:(i:Int)<7:=by omega
   have i8:(i:Int)+1<7:=by omega
   have i9:(0:Int)<=(i:Int)+1:=by omega
   have HOI0:=HOL.out i (by omega);have HOJ0:=HOL.out (i+1) (by omega);have hKS:∀V,Below w3.heap.size w3 V->V.heap[w.heap.size]? =some (.cells #[.int .u64 0,.int .i64 4] 24 (0,0))/\V.rangeAt G (i*5) (trC (i:Int) (lnN i) ⟨#[]⟩ (.slice none 0 0) (.slice none 0 0)).toList/\V.rangeAt G ((i+1)*5) (trC ((i+1:Nat):Int) (lnN (i+1)) ⟨#[]⟩ (.slice none 0 0) (.slice none 0 0)).toList:=fun V hb=>⟨(HKC.out V hb).1,(HKC.out V hb).2 i (by omega),(HKC.out V hb).2 (i+1) (by omega)⟩
   obtain⟨n0,hn0⟩:∃n,n=lnN i:=⟨_,rfl⟩
   obtain⟨n1,hn1⟩:∃n,n=lnN (i+1):=⟨_,rfl⟩
   rw[<-hn0]at HOI0 hKS;rw[<-hn1]at HOJ0 hKS;have HOI:=iH HOI0;have HOJ:Hid (∀W,Below w3.heap.size w3 W->Calls Tryz.prog 11 #[.agg #[.int .u64 0,.int .i64 4],.agg (trC ((i:Int)+1) n1 ⟨#[]⟩ (.slice none 0 0) (.slice none 0 0))] W fun e w'=>∃y,e=.returned (.agg (celC y))/\VAt (fun _=>True) w' (lfT (i+1)) y/\Below W.heap.size W w'):=HOJ0;have HKS:Hid (∀V,Below w3.heap.size w3 V->V.heap[w.heap.size]? =some (.cells #[.int .u64 0,.int .i64 4] 24 (0,0))/\V.rangeAt G (i*5) (trC (i:Int) n0 ⟨#[]⟩ (.slice none 0 0) (.slice none 0 0)).toList/\V.rangeAt G ((i+1)*5) (trC ((i:Int)+1) n1 ⟨#[]⟩ (.slice none 0 0) (.slice none 0 0)).toList):=hKS;have HOR1:Hid (∀(x y:Cel) (W:World),Below w3.heap.size w3 W->VAt (fun _=>True) W (lfT i) x->VAt (fun _=>True) W (lfT (i+1)) y->Calls Tryz.prog 14 #[.agg (celC x),.agg (celC y)] W fun e w'=>e=.returned (.int .i64 (-1))/\Below W.heap.size W w'):=fun x y W hb hx hy=>by
    have h:=od_Order (lfT i) (lfT (i+1)) x y W hx hy (lf_val i (by omega)) (lf_val (i+1) (by omega)) (HT3.out W hb);rw[(lf_ord i hlt).1]at h;exact h
   have HOR2:Hid (∀(x y:Cel) (W:World),Below w3.heap.size w3 W->VAt (fun _=>True) W (lfT (i+1)) x->VAt (fun _=>True) W (lfT i) y->Calls Tryz.prog 14 #[.agg (celC x),.agg (celC y)] W fun e w'=>e=.returned (.int .i64 1)/\Below W.heap.size W w'):=fun x y W hb hx hy=>by
    have h:=od_Order (lfT (i+1)) (lfT i) x y W hx hy (lf_val (i+1) (by omega)) (lf_val i (by omega)) (HT3.out W hb);rw[(lf_ord i hlt).2]at h;exact h
   have HLT:=iH hlt;clear hn0 hn1 HOI0 HOJ0 hKS hlt;go_upto_region 6 with fail
   have hwr1:IntKind.i64.wrap ((i:Int)+1)=(i:Int)+1:=by rw[IntKind.wrap_i64];omega
   have htn1:((i:Int)+1).toNat=i+1:=by omega
   have HW:Hid (Below w3.heap.size w3 wr.drew):=HWR.out.trans ((drawn_below wr).mono HWR.out.size);refine wp_region_T (S:=(fun V=>V.heap[w.heap.size]? =some (.cells #[.int .u64 0,.int .i64 4] 24 (0,0))/\V.rangeAt G (i*5) (trC (i:Int) n0 ⟨#[]⟩ (.slice none 0 0) (.slice none 0 0)).toList/\V.rangeAt G ((i+1)*5) (trC ((i:Int)+1) n1 ⟨#[]⟩ (.slice none 0 0) (.slice none 0 0)).toList)) [] (by kernel_rfl) (by exact HKS.out _ HW.out) (fun hHeld=> ?_);refine tyL 0 21 (hy:=yieldsIf_load_row (by rfl) 24 _ rfl w.heap.size rfl #[.int .u64 0,.int .i64 4] 24 (0,0) _ (fun w hw=>hw.1) Tryz.underlying24 rfl (by exact conf_size12)) (h:=?_);refine tkL 1 22 (h:=?_);(try simp only[pq]);refine tkL 2 23 (h:=?_);refine tkL 3 24 (h:=?_);(try simp only[pq]);refine tyL 4 25 (hy:=yieldsIf_arr (by rfl) 28 _ rfl G (i*5) rfl (trC (i:Int) n0 ⟨#[]⟩ (.slice none 0 0) (.slice none 0 0)) _ (fun w hw=>hw.2.1) Tryz.underlying28 rfl (by exact tr_size12)) (h:=?_);refine tyL 6 27 (hy:=yieldsIf_load_row (by rfl) 24 _ rfl w.heap.size rfl #[.int .u64 0,.int .i64 4] 24 (0,0) _ (fun w hw=>hw.1) Tryz.underlying24 rfl (by exact conf_size12)) (h:=?_);(try simp only[pq]);refine tkL 7 28 (h:=?_);refine tkL 8 29 (h:=?_);(try simp only[pq]);refine tkL 9 30 (h:=?_);refine tkL 10 31 (h:=?_);(try simp only[pq]);refine tyL 11 32 (hy:=yieldsIf_arr (by rfl) 28 _ rfl G ((i+1)*5) rfl (trC ((i:Int)+1) n1 ⟨#[]⟩ (.slice none 0 0) (.slice none 0 0)) _ (fun w hw=>hw.2.2) Tryz.underlying28 rfl (by exact tr_size12)) (h:=?_);(try simp only[pq]);refine tkO 5 (some 26) (h:=fun K hK=> ?_);go_simp;go_at_call 11;(with_reducible refine(HOI.out _ (by exact HW.out)).mono ?_);rintro r wo1 ⟨y1,rfl,hy,hb⟩;have HY1:=iH hy;replace HW:=iH (tW HW.out hb);clear hb hy;dsimp only;refine hK.out _ _ (by exact HKS.out _ HW.out) (fun hHeld=> ?_);clear hK K;(try simp only[pq]);refine tkO 12 (some 33) (h:=fun K hK=> ?_);go_simp;go_at_call 11;(with_reducible refine(HOJ.out _ (by exact HW.out)).mono ?_);rintro r wo2 ⟨y2,rfl,hy,hb⟩
   replace HY1:=iH (HY1.out.later hb);have HY2:=iH hy;replace HW:=iH (tW HW.out hb);clear hb hy;dsimp only;refine hK.out _ _ (by exact HKS.out _ HW.out) (fun hHeld=> ?_);clear hK K;(try simp only[pq]);refine tkO 13 (some 34) (h:=fun K hK=> ?_);go_simp;go_at_call 14;(with_reducible refine(HOR1.out _ _ _ (by exact HW.out) HY1.out HY2.out).mono ?_);rintro r wr12 ⟨rfl,hb⟩;replace HW:=iH (tW HW.out hb);clear hb;dsimp only;refine hK.out _ _ (by exact HKS.out _ HW.out) (fun hHeld=> ?_);clear hK K;(try simp only[pq]);refine tkL 14 35 (h:=?_);refine tkL 15 36 (h:=?_);(try simp only[pq]);refine tyL 16 37 (hy:=yieldsIf_load_row (by rfl) 24 _ rfl w.heap.size rfl #[.int .u64 0,.int .i64 4] 24 (0,0) _ (fun w hw=>hw.1) Tryz.underlying24 rfl (by exact conf_size12)) (h:=?_);refine tkL 17 38 (h:=?_);(try simp only[pq]);refine tkL 18 39 (h:=?_);refine tkL 19 40 (h:=?_);(try simp only[pq]);refine tkL 20 41 (h:=?_);refine tyL 21 42 (hy:=yieldsIf_arr (by rfl) 28 _ rfl G ((i+1)*5) rfl (trC ((i:Int)+1) n1 ⟨#[]⟩ (.slice none 0 0) (.slice none 0 0)) _ (fun w hw=>hw.2.2) Tryz.underlying28 rfl (by exact tr_size12)) (h:=?_);(try simp only[pq]);refine tyL 23 44 (hy:=yieldsIf_load_row (by rfl) 24 _ rfl w.heap.size rfl #[.int .u64 0,.int .i64 4] 24 (0,0) _ (fun w hw=>hw.1) Tryz.underlying24 rfl (by exact conf_size12)) (h:=?_);refine tkL 24 45 (h:=?_);(try simp only[pq]);refine tkL 25 46 (h:=?_);refine tkL 26 47 (h:=?_);(try simp only[pq]);refine tyL 27 48 (hy:=yieldsIf_arr (by rfl) 28 _ rfl G (i*5) rfl (trC (i:Int) n0 ⟨#[]⟩ (.slice none 0 0) (.slice none 0 0)) _ (fun w hw=>hw.2.1) Tryz.underlying28 rfl (by exact tr_size12)) (h:=?_);(try simp only[pq]);refine tkO 22 (some 43) (h:=fun K hK=> ?_);go_simp;go_at_call 11;(with_reducible refine(HOJ.out _ (by exact HW.out)).mono ?_);rintro r wo3 ⟨y3,rfl,hy,hb⟩;have HY3:=iH hy;replace HW:=iH (tW HW.out hb);clear hb hy;dsimp only;refine hK.out _ _ (by exact HKS.out _ HW.out) (fun hHeld=> ?_);clear hK K;(try simp only[pq])
   refine tkO 28 (some 49) (h:=fun K hK=> ?_);go_simp;go_at_call 11;(with_reducible refine(HOI.out _ (by exact HW.out)).mono ?_);rintro r wo4 ⟨y4,rfl,hy,hb⟩;replace HY3:=iH (HY3.out.later hb);have HY4:=iH hy;replace HW:=iH (tW HW.out hb);clear hb hy;dsimp only;refine hK.out _ _ (by exact HKS.out _ HW.out) (fun hHeld=> ?_);clear hK K;(try simp only[pq]);refine tkO 29 (some 50) (h:=fun K hK=> ?_);go_simp;go_at_call 14;(with_reducible refine(HOR2.out _ _ _ (by exact HW.out) HY3.out HY4.out).mono ?_);rintro r wr34 ⟨rfl,hb⟩;replace HW:=iH (tW HW.out hb);clear hb;dsimp only;refine hK.out _ _ (by exact HKS.out _ HW.out) (fun hHeld=> ?_);clear hK K;(try simp only[pq]);refine tkL 30 51 (h:=?_);refine tkL 31 52 (h:=?_);(try simp only[pq]);refine wpAnyT_done (by kernel_rfl) ?_ _;clear hHeld hwr1 htn1;go_wp2_with fail
   go_roundw
   case rel=>exact⟨i+1,by have:=HLT.out;omega,by go_num,HW.out⟩
   case measure=>have:=HLT.out;simp[intOf];omega
  obtain rfl:i=6:=by omega
  have i6:¬((6:Nat):Int)<6:=by decide
  have hr2:∀V,Below w3.heap.size w3 V->V.rangeAt G 10 (trC 2 (-1) ⟨#[]⟩ (.slice none 0 0) (.slice none 0 0)).toList/\V.rangeAt G 0 (trC 0 0 ⟨#[]⟩ (.slice none 0 0) (.slice none 0 0)).toList:=fun V hb=>⟨(HKC.out V hb).2 2 (by decide),(HKC.out V hb).2 0 (by decide)⟩
  have HKT:=iH hr2;have HRW:=iH (hr2 wr HWR.out).1;clear hr2 hlt;go_upto_region 10 with(first
   |(refine ld_tr (by rfl) _ rfl G 10 rfl (trC 2 (-1) ⟨#[]⟩ (.slice none 0 0) (.slice none 0 0)) HRW.out rfl ?_)
   |(refine st_agg rfl 28 _ _ rfl (wr.heap.size+1) (trC 4 0 ⟨#[]⟩ (.slice none 0 0) (.slice (some ⟨wr.heap.size,0,none⟩) 1 1)) rfl rfl 28 (trC 0 0 ⟨#[]⟩ (.slice none 0 0) (.slice none 0 0)) (two_new rfl).2.2.1 tr_size12 rfl (by simp[Value.oneCell']) ?_;intro w5 h5 k5))
  have hn:=two_new (W:=wr) (c:=#[.int .i64 2,.int .i64 (-1),.string ⟨#[]⟩,.slice none 0 0,.slice none 0 0]) (d:=(trC 0 0 ⟨#[]⟩ (.slice none 0 0) (.slice none 0 0))) (T:=28) (T':=28) rfl;obtain⟨g1,hg1⟩:∃g,g=wr.heap.size:=⟨_,rfl⟩
  obtain⟨X1,hX1⟩:∃g,g=wr.heap.size+1:=⟨_,rfl⟩
  have H5G:=iH (k5.other hn.2.1 (by omega));have HB5:=iH (HWR.out.trans ((hn.1.trans (k5.below (by omega))).mono HWR.out.size));rw[<-hX1]at h5 ⊢;rw[<-hg1]at h5 H5G;have H5X:=iH h5;have HKT5:Hid (∀V,Below w5.heap.size w5 V->V.rangeAt G 10 (trC 2 (-1) ⟨#[]⟩ (.slice none 0 0) (.slice none 0 0)).toList/\V.rangeAt G 0 (trC 0 0 ⟨#[]⟩ (.slice none 0 0) (.slice none 0 0)).toList):=fun V hb=>HKT.out V (tW HB5.out hb)
  clear hn h5 k5 hX1 hg1;have HW:Hid (Below w5.heap.size w5 w5.drew):=drawn_below w5;(try simp only[pq]);refine wp_region_T (S:=(fun V=>V.rangeAt G 10 (trC 2 (-1) ⟨#[]⟩ (.slice none 0 0) (.slice none 0 0)).toList/\V.rangeAt G 0 (trC 0 0 ⟨#[]⟩ (.slice none 0 0) (.slice none 0 0)).toList)) [] (by kernel_rfl) (by exact HKT5.out _ HW.out) (fun hHeld=> ?_);refine tkL 0 59 (h:=?_);refine tkL 1 60 (h:=?_);(try simp only[pq]);refine tyL 2 61 (hy:=yieldsIf_arr (by rfl) 28 _ rfl G 10 rfl (trC 2 (-1) ⟨#[]⟩ (.slice none 0 0) (.slice none 0 0)) _ (fun w hw=>hw.1) Tryz.underlying28 rfl (by exact tr_size12)) (h:=?_);refine tkL 3 62 (h:=?_);(try simp only[pq]);refine tkL 4 63 (h:=?_);refine tyL 5 64 (hy:=yieldsIf_arr (by rfl) 28 _ rfl G 0 rfl (trC 0 0 ⟨#[]⟩ (.slice none 0 0) (.slice none 0 0)) _ (fun w hw=>hw.2) Tryz.underlying28 rfl (by exact tr_size12)) (h:=?_);(try simp only[pq]);obtain⟨wd,hwd⟩:∃wd,wd=w5.drew:=⟨_,rfl⟩
  rw[<-hwd]at HW ⊢;clear hwd;refine wpAnyT_ready (rs:=[6,8]) (by kernel_rfl) (by simp) (AllT.cons (o:=⟨some 65,_,_,_,_,_⟩) rfl (fun K hK=> ?_) (AllT.cons (o:=⟨some 5,_,_,_,_,_⟩) rfl (fun K hK=> ?_) AllT.nil))
  ·go_simp
   have hbq:=Below.newly' wd (.cells #[.int .i64 2,.int .i64 (-1),.string ⟨#[]⟩,.slice none 0 0,.slice none 0 0,.int .i64 0,.int .i64 0,.string ⟨#[]⟩,.slice none 0 0,.slice none 0 0] 28);have hl9:=heap_alloc_last wd (.cells #[.int .i64 2,.int .i64 (-1),.string ⟨#[]⟩,.slice none 0 0,.slice none 0 0,.int .i64 0,.int .i64 0,.string ⟨#[]⟩,.slice none 0 0,.slice none 0 0] 28);obtain⟨g2,hg2⟩:∃g,g=wd.heap.size:=⟨_,rfl⟩
   obtain⟨wl,hwl⟩:∃W,W=wd.alloc (.cells #[.int .i64 2,.int .i64 (-1),.string ⟨#[]⟩,.slice none 0 0,.slice none 0 0,.int .i64 0,.int .i64 0,.string ⟨#[]⟩,.slice none 0 0,.slice none 0 0] 28):=⟨_,rfl⟩
   have hle:=HW.out.size;rw[<-hg2]at hle hl9;rw[<-hwl]at hbq hl9;have Hg2:=iH hle;have HLX:=iH hl9;replace HW:=iH (tW HW.out hbq);rw[<-hwl,<-hg2];refine hK.out _ _ (by exact HKT5.out _ HW.out) (fun hHeld=> ?_);clear hK K hbq hl9 hwl hg2 hle;(try simp only[pq]);refine wpAnyT_takeL (i:=7) (oi:=⟨some 66,_,_,_,_,_⟩) (v:=(.agg (trC 4 0 ⟨#[]⟩ (.slice none 0 0) (.slice (some ⟨g2,0,none⟩) 2 2)))) rfl (by kernel_rfl) (by kernel_rfl) (by kernel_rfl) (by kernel_rfl) (fun _ _ _ h=>h) (Or.inl ⟨by rfl,?hg2_7⟩) (by assumption) ?rg2_7
   case hg2_7=>(intro w hSw;(try dsimp only at hSw);first|(go_simp;done)|(go_simp;with_reducible rfl))
   (try simp only[pq]);refine tkO 8 (some 5) (h:=fun K hK=> ?_);go_simp;have hbq:=Below.newly' wl (.cells (trC 0 0 ⟨#[]⟩ (.slice none 0 0) (.slice none 0 0)) 28);have hl9:=heap_alloc_last wl (.cells (trC 0 0 ⟨#[]⟩ (.slice none 0 0) (.slice none 0 0)) 28);obtain⟨X2,hX2⟩:∃g,g=wl.heap.size:=⟨_,rfl⟩
   obtain⟨wz,hwz⟩:∃W,W=wl.alloc (.cells (trC 0 0 ⟨#[]⟩ (.slice none 0 0) (.slice none 0 0)) 28):=⟨_,rfl⟩
   have hle:=HW.out.size;rw[<-hX2]at hle hl9;rw[<-hwz]at hbq hl9;have HX2:=iH hle;have HZX:=iH hl9;have HLX0:=HLX;replace HLX:=iH (kW hbq HLX0.out);have HNE:Hid (g2≠X2):=fun e=>by have:=(gZ HLX0.out);omega
   replace HW:=iH (tW HW.out hbq);rw[<-hwz,<-hX2];refine hK.out _ _ (by exact HKT5.out _ HW.out) (fun hHeld=> ?_);clear hK K hbq hl9 hwz hX2 hle;(try simp only[pq]);refine tkO 9 none (h:=fun K hK=> ?_);refine st_agg_wp 28 _ _ rfl X2 (trC 4 0 ⟨#[]⟩ (.slice none 0 0) (.slice (some ⟨g2,0,none⟩) 2 2)) rfl rfl 28 _ (HZX.out) tr_size12 rfl (by simp[Value.oneCell']) ?_;intro w9 h9 k9;have hb9:Below w5.heap.size w5 w9:=HW.out.trans (k9.below HX2.out);refine hK.out _ _ (by exact HKT5.out _ hb9) (fun hHeld=> ?_);clear hK K;(try simp only[pq]);refine wpAnyT_done (by kernel_rfl) ?_ _;have H2X:=iH h9;have H2G:=iH (k9.other HLX.out HNE.out);have H1X:=iH (kW hb9 H5X.out);have H1G:=iH (kW hb9 H5G.out);replace HW:=iH (tW HB5.out hb9);clear hHeld h9 k9 hb9;go_upto_region 11 with fail
   have HB9:=iH HW.out;have HTW:=iH (fun V (hb:Below w9.heap.size w9 V)=>HT3.out V (tW HB9.out hb));have hc9:=(HKC.out w9 HB9.out).1;have HK9:Hid (∀V,Below w9.heap.size w9 V->V.heap[w.heap.size]? =some (.cells #[.int .u64 0,.int .i64 4] 24 (0,0))/\V.heap[X1]? =some (.cells (trC 4 0 ⟨#[]⟩ (.slice none 0 0) (.slice (some ⟨g1,0,none⟩) 1 1)) 28 (0,0))/\V.heap[X2]? =some (.cells (trC 4 0 ⟨#[]⟩ (.slice none 0 0) (.slice (some ⟨g2,0,none⟩) 2 2)) 28 (0,0))):=fun V hb=>⟨kW hb hc9,kW hb H1X.out,kW hb H2X.out⟩
   have HO1:Hid (∀W,Below w9.heap.size w9 W->Calls Tryz.prog 11 #[.agg #[.int .u64 0,.int .i64 4],.agg (trC 4 0 ⟨#[]⟩ (.slice none 0 0) (.slice (some ⟨g1,0,none⟩) 1 1))] W fun e w'=>∃y,e=.returned (.agg (celC y))/\VAt (fun _=>True) w' v1T y/\Below W.heap.size W w'):=fun W hb=>by
    have h:=lw_of 0 4 v1T _ W (by decide) (trV_v1 (kW hb H1G.out)) v1_few.1 v1_few.2.1 (by rw[v1_chk.2.1];decide) (HTW.out W hb);rw[v1_val.2]at h;exact h.mono fun e w' h=>by
     obtain⟨y,h1,h2,h3⟩:=h;exact⟨y,h1,h2.weak fun _ _=>trivial,h3⟩
   have HO2:Hid (∀W,Below w9.heap.size w9 W->Calls Tryz.prog 11 #[.agg #[.int .u64 0,.int .i64 4],.agg (trC 4 0 ⟨#[]⟩ (.slice none 0 0) (.slice (some ⟨g2,0,none⟩) 2 2))] W fun e w'=>∃y,e=.returned (.agg (celC y))/\VAt (fun _=>True) w' v2T y/\Below W.heap.size W w'):=fun W hb=>by
    have h:=lw_of 0 4 v2T _ W (by decide) (trV_v2 (kW hb H2G.out)) v2_few.1 v2_few.2.1 (by rw[v2_chk.2.1];decide) (HTW.out W hb);rw[v2_val.2]at h;exact h.mono fun e w' h=>by
     obtain⟨y,h1,h2,h3⟩:=h;exact⟨y,h1,h2.weak fun _ _=>trivial,h3⟩
   have HOR1:Hid (∀(x y:Cel) (W:World),Below w9.heap.size w9 W->VAt (fun _=>True) W v1T x->VAt (fun _=>True) W v2T y->Calls Tryz.prog 14 #[.agg (celC x),.agg (celC y)] W fun e w'=>e=.returned (.int .i64 (-1))/\Below W.heap.size W w'):=fun x y W hb hx hy=>by
    have h:=od_Order v1T v2T x y W hx hy v1_val.1 v2_val.1 (HTW.out W hb);rw[v12_ord.1]at h;exact h
   have HOR2:Hid (∀(x y:Cel) (W:World),Below w9.heap.size w9 W->VAt (fun _=>True) W v1T x->VAt (fun _=>True) W v1T y->Calls Tryz.prog 15 #[.agg (celC x),.agg (celC y)] W fun e w'=>e=.returned (.bool true)/\Below W.heap.size W w'):=fun x y W hb hx hy=>by
    have h:=od_Same v1T v1T x y W hx hy v1_val.1 v1_val.1 (HTW.out W hb);rw[v12_ord.2]at h;exact h
   clear hc9;replace HW:Hid (Below w9.heap.size w9 w9.drew):=drawn_below w9;refine wp_region_T (S:=(fun V=>V.heap[w.heap.size]? =some (.cells #[.int .u64 0,.int .i64 4] 24 (0,0))/\V.heap[X1]? =some (.cells (trC 4 0 ⟨#[]⟩ (.slice none 0 0) (.slice (some ⟨g1,0,none⟩) 1 1)) 28 (0,0))/\V.heap[X2]? =some (.cells (trC 4 0 ⟨#[]⟩ (.slice none 0 0) (.slice (some ⟨g2,0,none⟩) 2 2)) 28 (0,0)))) [] (by kernel_rfl) (by exact HK9.out _ HW.out) (fun hHeld=> ?_);refine tyL 0 67 (hy:=yieldsIf_load_row (by rfl) 24 _ rfl w.heap.size rfl #[.int .u64 0,.int .i64 4] 24 (0,0) _ (fun w hw=>hw.1) Tryz.underlying24 rfl (by exact conf_size12)) (h:=?_);refine tyL 1 68 (hy:=yieldsIf_load_row (by rfl) 28 _ rfl X1 rfl (trC 4 0 ⟨#[]⟩ (.slice none 0 0) (.slice (some ⟨g1,0,none⟩) 1 1)) 28 (0,0) _ (fun w hw=>hw.2.1) Tryz.underlying28 rfl (by exact tr_size12)) (h:=?_);(try simp only[pq]);refine tyL 3 70 (hy:=yieldsIf_load_row (by rfl) 24 _ rfl w.heap.size rfl #[.int .u64 0,.int .i64 4] 24 (0,0) _ (fun w hw=>hw.1) Tryz.underlying24 rfl (by exact conf_size12)) (h:=?_);refine tyL 4 71 (hy:=yieldsIf_load_row (by rfl) 28 _ rfl X2 rfl (trC 4 0 ⟨#[]⟩ (.slice none 0 0) (.slice (some ⟨g2,0,none⟩) 2 2)) 28 (0,0) _ (fun w hw=>hw.2.2) Tryz.underlying28 rfl (by exact tr_size12)) (h:=?_);(try simp only[pq]);refine tkO 2 (some 69) (h:=fun K hK=> ?_);go_simp;go_at_call 11;(with_reducible refine(HO1.out _ (by exact HW.out)).mono ?_);rintro r wo1 ⟨y1,rfl,hy,hb⟩;have HY1:=iH hy;replace HW:=iH (tW HW.out hb);clear hb hy;dsimp only;refine hK.out _ _ (by exact HK9.out _ HW.out) (fun hHeld=> ?_);clear hK K;(try simp only[pq]);refine tkO 5 (some 72) (h:=fun K hK=> ?_);go_simp;go_at_call 11;(with_reducible refine(HO2.out _ (by exact HW.out)).mono ?_);rintro r wo2 ⟨y2,rfl,hy,hb⟩;replace HY1:=iH (HY1.out.later hb);have HY2:=iH hy;replace HW:=iH (tW HW.out hb);clear hb hy;dsimp only;refine hK.out _ _ (by exact HK9.out _ HW.out) (fun hHeld=> ?_);clear hK K;(try simp only[pq]);refine tkO 6 (some 73) (h:=fun K hK=> ?_);go_simp
   go_at_call 14;(with_reducible refine(HOR1.out _ _ _ (by exact HW.out) HY1.out HY2.out).mono ?_);rintro r wr12 ⟨rfl,hb⟩;replace HW:=iH (tW HW.out hb);clear hb;dsimp only;refine hK.out _ _ (by exact HK9.out _ HW.out) (fun hHeld=> ?_);clear hK K;(try simp only[pq]);refine tkL 7 74 (h:=?_);refine tkL 8 75 (h:=?_);(try simp only[pq]);refine tyL 9 76 (hy:=yieldsIf_load_row (by rfl) 24 _ rfl w.heap.size rfl #[.int .u64 0,.int .i64 4] 24 (0,0) _ (fun w hw=>hw.1) Tryz.underlying24 rfl (by exact conf_size12)) (h:=?_);refine tyL 10 77 (hy:=yieldsIf_load_row (by rfl) 28 _ rfl X1 rfl (trC 4 0 ⟨#[]⟩ (.slice none 0 0) (.slice (some ⟨g1,0,none⟩) 1 1)) 28 (0,0) _ (fun w hw=>hw.2.1) Tryz.underlying28 rfl (by exact tr_size12)) (h:=?_);(try simp only[pq]);refine tyL 12 79 (hy:=yieldsIf_load_row (by rfl) 24 _ rfl w.heap.size rfl #[.int .u64 0,.int .i64 4] 24 (0,0) _ (fun w hw=>hw.1) Tryz.underlying24 rfl (by exact conf_size12)) (h:=?_);refine tyL 13 80 (hy:=yieldsIf_load_row (by rfl) 28 _ rfl X1 rfl (trC 4 0 ⟨#[]⟩ (.slice none 0 0) (.slice (some ⟨g1,0,none⟩) 1 1)) 28 (0,0) _ (fun w hw=>hw.2.1) Tryz.underlying28 rfl (by exact tr_size12)) (h:=?_);(try simp only[pq]);refine tkO 11 (some 78) (h:=fun K hK=> ?_);go_simp;go_at_call 11;(with_reducible refine(HO1.out _ (by exact HW.out)).mono ?_);rintro r wo3 ⟨y3,rfl,hy,hb⟩;have HY3:=iH hy;replace HW:=iH (tW HW.out hb);clear hb hy;dsimp only;refine hK.out _ _ (by exact HK9.out _ HW.out) (fun hHeld=> ?_);clear hK K;(try simp only[pq]);refine tkO 14 (some 81) (h:=fun K hK=> ?_);go_simp;go_at_call 11;(with_reducible refine(HO1.out _ (by exact HW.out)).mono ?_);rintro r wo4 ⟨y4,rfl,hy,hb⟩;replace HY3:=iH (HY3.out.later hb);have HY4:=iH hy;replace HW:=iH (tW HW.out hb);clear hb hy;dsimp only;refine hK.out _ _ (by exact HK9.out _ HW.out) (fun hHeld=> ?_);clear hK K;(try simp only[pq]);refine tkO 15 (some 82) (h:=fun K hK=> ?_);go_simp;go_at_call 15;(with_reducible refine(HOR2.out _ _ _ (by exact HW.out) HY3.out HY4.out).mono ?_)
   rintro r wr34 ⟨rfl,hb⟩;replace HW:=iH (tW HW.out hb);clear hb;dsimp only;refine hK.out _ _ (by exact HK9.out _ HW.out) (fun hHeld=> ?_);clear hK K;(try simp only[pq]);refine tkL 16 83 (h:=?_);refine tkL 17 0 (h:=?_);(try simp only[pq]);refine wpAnyT_done (by kernel_rfl) ?_ _;clear hHeld;go_wp2_with fail
   have hb:=HB3.out.trans ((tW HB9.out HW.out).mono HB3.out.size);go_ret;exact⟨rfl,hb⟩
  ·go_simp
   have hbq:=Below.newly' wd (.cells (trC 0 0 ⟨#[]⟩ (.slice none 0 0) (.slice none 0 0)) 28);have hl9:=heap_alloc_last wd (.cells (trC 0 0 ⟨#[]⟩ (.slice none 0 0) (.slice none 0 0)) 28);obtain⟨X2,hX2⟩:∃g,g=wd.heap.size:=⟨_,rfl⟩
   obtain⟨wz,hwz⟩:∃W,W=wd.alloc (.cells (trC 0 0 ⟨#[]⟩ (.slice none 0 0) (.slice none 0 0)) 28):=⟨_,rfl⟩
   have hle:=HW.out.size;rw[<-hX2]at hle hl9;rw[<-hwz]at hbq hl9;have HX2:=iH hle;have HZX:=iH hl9;replace HW:=iH (tW HW.out hbq);rw[<-hwz,<-hX2];refine hK.out _ _ (by exact HKT5.out _ HW.out) (fun hHeld=> ?_);clear hK K hbq hl9 hwz hX2 hle;(try simp only[pq]);refine tkO 6 (some 65) (h:=fun K hK=> ?_);go_simp;have hbq:=Below.newly' wz (.cells #[.int .i64 2,.int .i64 (-1),.string ⟨#[]⟩,.slice none 0 0,.slice none 0 0,.int .i64 0,.int .i64 0,.string ⟨#[]⟩,.slice none 0 0,.slice none 0 0] 28);have hl9:=heap_alloc_last wz (.cells #[.int .i64 2,.int .i64 (-1),.string ⟨#[]⟩,.slice none 0 0,.slice none 0 0,.int .i64 0,.int .i64 0,.string ⟨#[]⟩,.slice none 0 0,.slice none 0 0] 28);obtain⟨g2,hg2⟩:∃g,g=wz.heap.size:=⟨_,rfl⟩
   obtain⟨wl,hwl⟩:∃W,W=wz.alloc (.cells #[.int .i64 2,.int .i64 (-1),.string ⟨#[]⟩,.slice none 0 0,.slice none 0 0,.int .i64 0,.int .i64 0,.string ⟨#[]⟩,.slice none 0 0,.slice none 0 0] 28):=⟨_,rfl⟩
   have hle:=HW.out.size;rw[<-hg2]at hle hl9;rw[<-hwl]at hbq hl9;have Hg2:=iH hle;have HLX:=iH hl9;have HZX0:=HZX;replace HZX:=iH (kW hbq HZX0.out);have HNE:Hid (g2≠X2):=fun e=>by have:=(gZ HZX0.out);omega
   replace HW:=iH (tW HW.out hbq);rw[<-hwl,<-hg2];refine hK.out _ _ (by exact HKT5.out _ HW.out) (fun hHeld=> ?_);clear hK K hbq hl9 hwl hg2 hle;(try simp only[pq]);refine wpAnyT_takeL (i:=7) (oi:=⟨some 66,_,_,_,_,_⟩) (v:=(.agg (trC 4 0 ⟨#[]⟩ (.slice none 0 0) (.slice (some ⟨g2,0,none⟩) 2 2)))) rfl (by kernel_rfl) (by kernel_rfl) (by kernel_rfl) (by kernel_rfl) (fun _ _ _ h=>h) (Or.inl ⟨by rfl,?hg4_7⟩) (by assumption) ?rg4_7
   case hg4_7=>(intro w hSw;(try dsimp only at hSw);first|(go_simp;done)|(go_simp;with_reducible rfl))
   (try simp only[pq]);refine tkO 9 none (h:=fun K hK=> ?_);refine st_agg_wp 28 _ _ rfl X2 (trC 4 0 ⟨#[]⟩ (.slice none 0 0) (.slice (some ⟨g2,0,none⟩) 2 2)) rfl rfl 28 _ (HZX.out) tr_size12 rfl (by simp[Value.oneCell']) ?_;intro w9 h9 k9;have hb9:Below w5.heap.size w5 w9:=HW.out.trans (k9.below HX2.out);refine hK.out _ _ (by exact HKT5.out _ hb9) (fun hHeld=> ?_);clear hK K;(try simp only[pq]);refine wpAnyT_done (by kernel_rfl) ?_ _;have H2X:=iH h9;have H2G:=iH (k9.other HLX.out HNE.out);have H1X:=iH (kW hb9 H5X.out);have H1G:=iH (kW hb9 H5G.out);replace HW:=iH (tW HB5.out hb9);clear hHeld h9 k9 hb9;go_upto_region 11 with fail
   have HB9:=iH HW.out;have HTW:=iH (fun V (hb:Below w9.heap.size w9 V)=>HT3.out V (tW HB9.out hb));have hc9:=(HKC.out w9 HB9.out).1;have HK9:Hid (∀V,Below w9.heap.size w9 V->V.heap[w.heap.size]? =some (.cells #[.int .u64 0,.int .i64 4] 24 (0,0))/\V.heap[X1]? =some (.cells (trC 4 0 ⟨#[]⟩ (.slice none 0 0) (.slice (some ⟨g1,0,none⟩) 1 1)) 28 (0,0))/\V.heap[X2]? =some (.cells (trC 4 0 ⟨#[]⟩ (.slice none 0 0) (.slice (some ⟨g2,0,none⟩) 2 2)) 28 (0,0))):=fun V hb=>⟨kW hb hc9,kW hb H1X.out,kW hb H2X.out⟩
   have HO1:Hid (∀W,Below w9.heap.size w9 W->Calls Tryz.prog 11 #[.agg #[.int .u64 0,.int .i64 4],.agg (trC 4 0 ⟨#[]⟩ (.slice none 0 0) (.slice (some ⟨g1,0,none⟩) 1 1))] W fun e w'=>∃y,e=.returned (.agg (celC y))/\VAt (fun _=>True) w' v1T y/\Below W.heap.size W w'):=fun W hb=>by
    have h:=lw_of 0 4 v1T _ W (by decide) (trV_v1 (kW hb H1G.out)) v1_few.1 v1_few.2.1 (by rw[v1_chk.2.1];decide) (HTW.out W hb);rw[v1_val.2]at h;exact h.mono fun e w' h=>by
     obtain⟨y,h1,h2,h3⟩:=h;exact⟨y,h1,h2.weak fun _ _=>trivial,h3⟩
   have HO2:Hid (∀W,Below w9.heap.size w9 W->Calls Tryz.prog 11 #[.agg #[.int .u64 0,.int .i64 4],.agg (trC 4 0 ⟨#[]⟩ (.slice none 0 0) (.slice (some ⟨g2,0,none⟩) 2 2))] W fun e w'=>∃y,e=.returned (.agg (celC y))/\VAt (fun _=>True) w' v2T y/\Below W.heap.size W w'):=fun W hb=>by
    have h:=lw_of 0 4 v2T _ W (by decide) (trV_v2 (kW hb H2G.out)) v2_few.1 v2_few.2.1 (by rw[v2_chk.2.1];decide) (HTW.out W hb);rw[v2_val.2]at h;exact h.mono fun e w' h=>by
     obtain⟨y,h1,h2,h3⟩:=h;exact⟨y,h1,h2.weak fun _ _=>trivial,h3⟩
   have HOR1:Hid (∀(x y:Cel) (W:World),Below w9.heap.size w9 W->VAt (fun _=>True) W v1T x->VAt (fun _=>True) W v2T y->Calls Tryz.prog 14 #[.agg (celC x),.agg (celC y)] W fun e w'=>e=.returned (.int .i64 (-1))/\Below W.heap.size W w'):=fun x y W hb hx hy=>by
    have h:=od_Order v1T v2T x y W hx hy v1_val.1 v2_val.1 (HTW.out W hb);rw[v12_ord.1]at h;exact h
   have HOR2:Hid (∀(x y:Cel) (W:World),Below w9.heap.size w9 W->VAt (fun _=>True) W v1T x->VAt (fun _=>True) W v1T y->Calls Tryz.prog 15 #[.agg (celC x),.agg (celC y)] W fun e w'=>e=.returned (.bool true)/\Below W.heap.size W w'):=fun x y W hb hx hy=>by
    have h:=od_Same v1T v1T x y W hx hy v1_val.1 v1_val.1 (HTW.out W hb);rw[v12_ord.2]at h;exact h
   clear hc9;replace HW:Hid (Below w9.heap.size w9 w9.drew):=drawn_below w9;refine wp_region_T (S:=(fun V=>V.heap[w.heap.size]? =some (.cells #[.int .u64 0,.int .i64 4] 24 (0,0))/\V.heap[X1]? =some (.cells (trC 4 0 ⟨#[]⟩ (.slice none 0 0) (.slice (some ⟨g1,0,none⟩) 1 1)) 28 (0,0))/\V.heap[X2]? =some (.cells (trC 4 0 ⟨#[]⟩ (.slice none 0 0) (.slice (some ⟨g2,0,none⟩) 2 2)) 28 (0,0)))) [] (by kernel_rfl) (by exact HK9.out _ HW.out) (fun hHeld=> ?_);refine tyL 0 67 (hy:=yieldsIf_load_row (by rfl) 24 _ rfl w.heap.size rfl #[.int .u64 0,.int .i64 4] 24 (0,0) _ (fun w hw=>hw.1) Tryz.underlying24 rfl (by exact conf_size12)) (h:=?_);refine tyL 1 68 (hy:=yieldsIf_load_row (by rfl) 28 _ rfl X1 rfl (trC 4 0 ⟨#[]⟩ (.slice none 0 0) (.slice (some ⟨g1,0,none⟩) 1 1)) 28 (0,0) _ (fun w hw=>hw.2.1) Tryz.underlying28 rfl (by exact tr_size12)) (h:=?_);(try simp only[pq]);refine tyL 3 70 (hy:=yieldsIf_load_row (by rfl) 24 _ rfl w.heap.size rfl #[.int .u64 0,.int .i64 4] 24 (0,0) _ (fun w hw=>hw.1) Tryz.underlying24 rfl (by exact conf_size12)) (h:=?_);refine tyL 4 71 (hy:=yieldsIf_load_row (by rfl) 28 _ rfl X2 rfl (trC 4 0 ⟨#[]⟩ (.slice none 0 0) (.slice (some ⟨g2,0,none⟩) 2 2)) 28 (0,0) _ (fun w hw=>hw.2.2) Tryz.underlying28 rfl (by exact tr_size12)) (h:=?_);(try simp only[pq]);refine tkO 2 (some 69) (h:=fun K hK=> ?_);go_simp;go_at_call 11;(with_reducible refine(HO1.out _ (by exact HW.out)).mono ?_);rintro r wo1 ⟨y1,rfl,hy,hb⟩;have HY1:=iH hy;replace HW:=iH (tW HW.out hb);clear hb hy;dsimp only;refine hK.out _ _ (by exact HK9.out _ HW.out) (fun hHeld=> ?_);clear hK K;(try simp only[pq]);refine tkO 5 (some 72) (h:=fun K hK=> ?_);go_simp;go_at_call 11;(with_reducible refine(HO2.out _ (by exact HW.out)).mono ?_);rintro r wo2 ⟨y2,rfl,hy,hb⟩;replace HY1:=iH (HY1.out.later hb);have HY2:=iH hy;replace HW:=iH (tW HW.out hb);clear hb hy;dsimp only;refine hK.out _ _ (by exact HK9.out _ HW.out) (fun hHeld=> ?_);clear hK K;(try simp only[pq]);refine tkO 6 (some 73) (h:=fun K hK=> ?_);go_simp
   go_at_call 14;(with_reducible refine(HOR1.out _ _ _ (by exact HW.out) HY1.out HY2.out).mono ?_);rintro r wr12 ⟨rfl,hb⟩;replace HW:=iH (tW HW.out hb);clear hb;dsimp only;refine hK.out _ _ (by exact HK9.out _ HW.out) (fun hHeld=> ?_);clear hK K;(try simp only[pq]);refine tkL 7 74 (h:=?_);refine tkL 8 75 (h:=?_);(try simp only[pq]);refine tyL 9 76 (hy:=yieldsIf_load_row (by rfl) 24 _ rfl w.heap.size rfl #[.int .u64 0,.int .i64 4] 24 (0,0) _ (fun w hw=>hw.1) Tryz.underlying24 rfl (by exact conf_size12)) (h:=?_);refine tyL 10 77 (hy:=yieldsIf_load_row (by rfl) 28 _ rfl X1 rfl (trC 4 0 ⟨#[]⟩ (.slice none 0 0) (.slice (some ⟨g1,0,none⟩) 1 1)) 28 (0,0) _ (fun w hw=>hw.2.1) Tryz.underlying28 rfl (by exact tr_size12)) (h:=?_);(try simp only[pq]);refine tyL 12 79 (hy:=yieldsIf_load_row (by rfl) 24 _ rfl w.heap.size rfl #[.int .u64 0,.int .i64 4] 24 (0,0) _ (fun w hw=>hw.1) Tryz.underlying24 rfl (by exact conf_size12)) (h:=?_);refine tyL 13 80 (hy:=yieldsIf_load_row (by rfl) 28 _ rfl X1 rfl (trC 4 0 ⟨#[]⟩ (.slice none 0 0) (.slice (some ⟨g1,0,none⟩) 1 1)) 28 (0,0) _ (fun w hw=>hw.2.1) Tryz.underlying28 rfl (by exact tr_size12)) (h:=?_);(try simp only[pq]);refine tkO 11 (some 78) (h:=fun K hK=> ?_);go_simp;go_at_call 11;(with_reducible refine(HO1.out _ (by exact HW.out)).mono ?_);rintro r wo3 ⟨y3,rfl,hy,hb⟩;have HY3:=iH hy;replace HW:=iH (tW HW.out hb);clear hb hy;dsimp only;refine hK.out _ _ (by exact HK9.out _ HW.out) (fun hHeld=> ?_);clear hK K;(try simp only[pq]);refine tkO 14 (some 81) (h:=fun K hK=> ?_);go_simp;go_at_call 11;(with_reducible refine(HO1.out _ (by exact HW.out)).mono ?_);rintro r wo4 ⟨y4,rfl,hy,hb⟩;replace HY3:=iH (HY3.out.later hb);have HY4:=iH hy;replace HW:=iH (tW HW.out hb);clear hb hy;dsimp only;refine hK.out _ _ (by exact HK9.out _ HW.out) (fun hHeld=> ?_);clear hK K;(try simp only[pq]);refine tkO 15 (some 82) (h:=fun K hK=> ?_);go_simp;go_at_call 15;(with_reducible refine(HOR2.out _ _ _ (by exact HW.out) HY3.out HY4.out).mono ?_)
   rintro r wr34 ⟨rfl,hb⟩;replace HW:=iH (tW HW.out hb);clear hb;dsimp only;refine hK.out _ _ (by exact HK9.out _ HW.out) (fun hHeld=> ?_);clear hK K;(try simp only[pq]);refine tkL 16 83 (h:=?_);refine tkL 17 0 (h:=?_);(try simp only[pq]);refine wpAnyT_done (by kernel_rfl) ?_ _;clear hHeld;go_wp2_with fail
   have hb:=HB3.out.trans ((tW HB9.out HW.out).mono HB3.out.size);go_ret;exact⟨rfl,hb⟩
end Go.Proofs.YtengibnpebfblaaGreatDoor
