import Derived.Test.YtengibnpebfblaaGreatDoorB48
import Derived.Test.YtengibnpebfblaaGreatDoorB50
import Derived.Test.YtengibnpebfblaaGreatDoorB53
set_option maxRecDepth 1000000
set_option maxHeartbeats 8000000
set_option linter.unusedSimpArgs false
namespace Go.Proofs.YtengibnpebfblaaGreatDoor
open Go.RowKit
theorem same_self (a:Tr):sameT a a=true:=(same_iff _ _).2 rfl
theorem wit_self (a:Tr):witT a a=true:=by rw[wit_eq,same_self,Bool.true_or]
theorem wit_part {a x:Tr} (h:x∈a.xs):witT a x=true:=by
 obtain⟨j,hj,rfl⟩:=List.mem_iff_getElem.1 h;rw[wit_eq,witL_some hj (wit_self _),Bool.or_true]
theorem orderWithin_walk (s1:Nat) (b1:Int) (s2:Nat) (b2:Int) (v:Value) (a:Tr) (u:Value) (b:Tr) (hs1:s1<18446744073709551616) (hs2:s2<18446744073709551616) (w:World) (hv:TrV w a v) (hu:TrV w b u) (hT:Tab6 w):
  Calls Tryz.prog 8 #[.agg #[.int .u64 (s1:Int),.int .i64 b1],.agg #[.int .u64 (s2:Int),.int .i64 b2],v,u] w fun e w'=>e=.returned (.bool true)/\Below w.heap.size w w':=by
 obtain⟨ak,an,att,aa,al,ac,ad,am,ae,rfl⟩:=tr_shape hv;obtain⟨bk,bn,btt,ba,bl,bc,bd,bm,be,rfl⟩:=tr_shape hu;have hra:=trV_rng a _ hv;have hrb:=trV_rng b _ hu;obtain⟨w1,hw1⟩:∃w1,(((w.alloc (.cells #[.int .u64 (s1:Int),.int .i64 b1] 24)).alloc (.cells #[.int .u64 (s2:Int),.int .i64 b2] 24)).alloc (.cells (trC ak an att (.slice aa al ac) (.slice ad am ae)) 28)).alloc (.cells (trC bk bn btt (.slice ba bl bc) (.slice bd bm be)) 28)=w1:=⟨_,rfl⟩
 obtain⟨hb1,hx1,hx2,hx3,hx4⟩:=four_new12 hw1;have HK:=fun(g:Nat) (o:Obj) (h:w1.heap[g]? =some o) (W:World) (hb:Below w1.heap.size w1 W)=>(hb.block g (gZ h)).trans h
 have HX1:=iH (HK _ _ hx1);have HX2:=iH (HK _ _ hx2);have HX3:=iH (HK _ _ hx3);have HX4:=iH (HK _ _ hx4);have HB1:=iH hb1;have HVA:=iH (fun W (hb:Below w1.heap.size w1 W)=>(hv.later hb1).later hb);have HVB:=iH (fun W (hb:Below w1.heap.size w1 W)=>(hu.later hb1).later hb);have HT1:=iH (fun W (hb:Below w1.heap.size w1 W)=>(hT.below hb1).below hb);have HLV:=iH (fun W (hb:Below w1.heap.size w1 W)=>lw_live12 W (HT1.out W hb));obtain⟨rt,hrt⟩:∃r,r=(okR a&&okR b):=⟨_,rfl⟩
 have HRT:Hid (∀W,Below w1.heap.size w1 W->Calls Tryz.prog 10 #[.slice (some ⟨W.heap.size,0,none⟩) 2 2] (W.alloc (.cells #[.int .i64 ak,.int .i64 an,.string att,.slice aa al ac,.slice ad am ae,.int .i64 bk,.int .i64 bn,.string btt,.slice ba bl bc,.slice bd bm be] 28)) fun e w'=>e=.returned (.bool rt)/\Below W.heap.size W w'):=fun W hb=>by
  have hbn:=Below.newly' W (.cells #[.int .i64 ak,.int .i64 an,.string att,.slice aa al ac,.slice ad am ae,.int .i64 bk,.int .i64 bn,.string btt,.slice ba bl bc,.slice bd bm be] 28);have hl:=heap_alloc_last W (.cells #[.int .i64 ak,.int .i64 an,.string att,.slice aa al ac,.slice ad am ae,.int .i64 bk,.int .i64 bn,.string btt,.slice ba bl bc,.slice bd bm be] 28);have h:=lw_right (W.alloc (.cells #[.int .i64 ak,.int .i64 an,.string att,.slice aa al ac,.slice ad am ae,.int .i64 bk,.int .i64 bn,.string btt,.slice ba bl bc,.slice bd bm be] 28)) _ [a,b] (trL_two rfl rfl ((HVA.out W hb).later hbn) ((HVB.out W hb).later hbn) (fun j u hu=>cell_in hl (by rw[<-Array.getElem?_toList];exact hu)));rw[hrt];refine h.mono fun e w' h=>⟨by rw[h.1];simp,tW hbn h.2⟩
 have HRE:=iH hrt;have HRN:=iH (And.intro hra hrb);have HW:Hid (Below w1.heap.size w1 w1):=Below.refl _ _;clear HK hx1 hx2 hx3 hx4 hb1 hv hu hT hra hrb hrt;cases rt with
 |false=>
  go_enter Tryz.func8,Tryz.ntmps8;go_upto_region 1 with fail
  clear hw1;go_wp2_with (first
 |(go_at_call 9;(with_reducible refine(HLV.out _ HW.out).mono ?_);rintro r V ⟨rfl,hb⟩;replace HW:=iH (tW HW.out hb);clear hb)
 |(refine ld_if (by rfl) 28 _ rfl (w.heap.size+2) rfl 28 _ _ _ (HX3.out _ HW.out) Tryz.underlying28 rfl tr_size12 ?_)
 |(refine ld_if (by rfl) 28 _ rfl (w.heap.size+3) rfl 28 _ _ _ (HX4.out _ HW.out) Tryz.underlying28 rfl tr_size12 ?_)
 |(go_at_call 10;(with_reducible refine(HRT.out _ HW.out).mono ?_);rintro r V ⟨rfl,hb⟩;replace HW:=iH (tW HW.out hb);clear hb))
  have hb:=tW HB1.out HW.out;go_ret;exact⟨rfl,hb⟩
 |true=>
  have hab:=Bool.and_eq_true_iff.1 HRE.out.symm;obtain⟨a1,a2,a3,a4,a5,a6⟩:=okR_val hab.1 HRN.out.1;obtain⟨c1,c2,c3,c4,c5,c6⟩:=okR_val hab.2 HRN.out.2;have HVBA:=iH a6;have HVBB:=iH c6;have HOA1:Hid (∀W,Below w1.heap.size w1 W->Calls Tryz.prog 11 #[.agg #[.int .u64 (s1:Int),.int .i64 b1],.agg (trC ak an att (.slice aa al ac) (.slice ad am ae))] W fun e w'=>∃v,e=.returned v/\GotV12 (fun k=>W.heap.size<=k) w' v (canT a)/\Below W.heap.size W w'):=fun W hb=>by
   have h:=lw_of s1 b1 a _ W hs1 (HVA.out W hb) a1 a2 (by omega) (HT1.out W hb);rw[a5]at h;exact h.mono fun e w' h=>by
    obtain⟨y,h1,h2,h3⟩:=h;exact⟨_,h1,⟨y,rfl,h2⟩,h3⟩
  have HOB1:Hid (∀W,Below w1.heap.size w1 W->Calls Tryz.prog 11 #[.agg #[.int .u64 (s2:Int),.int .i64 b2],.agg (trC bk bn btt (.slice ba bl bc) (.slice bd bm be))] W fun e w'=>∃v,e=.returned v/\GotV12 (fun k=>W.heap.size<=k) w' v (canT b)/\Below W.heap.size W w'):=fun W hb=>by
   have h:=lw_of s2 b2 b _ W hs2 (HVB.out W hb) c1 c2 (by omega) (HT1.out W hb);rw[c5]at h;exact h.mono fun e w' h=>by
    obtain⟨y,h1,h2,h3⟩:=h;exact⟨_,h1,⟨y,rfl,h2⟩,h3⟩
  have HCA1:Hid (∀W,Below w1.heap.size w1 W->Calls Tryz.prog 12 #[.agg (trC ak an att (.slice aa al ac) (.slice ad am ae))] W fun e w'=>∃v,e=.returned v/\GotT12 (fun k=>W.heap.size<=k) w' v (canT a)/\Below W.heap.size W w'):=fun W hb=>by
   obtain⟨k1,k2,k3⟩:=chkT_ok.1 a4;exact(rf_Canon a _ W (HVA.out W hb) k1 k2 k3 a2).mono fun e w' h=>by
    obtain⟨c,h1,h2,h3,h4⟩:=h;exact⟨_,h1,h3,h4⟩
  have HCB1:Hid (∀W,Below w1.heap.size w1 W->Calls Tryz.prog 12 #[.agg (trC bk bn btt (.slice ba bl bc) (.slice bd bm be))] W fun e w'=>∃v,e=.returned v/\GotT12 (fun k=>W.heap.size<=k) w' v (canT b)/\Below W.heap.size W w'):=fun W hb=>by
   obtain⟨k1,k2,k3⟩:=chkT_ok.1 c4;exact(rf_Canon b _ W (HVB.out W hb) k1 k2 k3 c2).mono fun e w' h=>by
    obtain⟨c,h1,h2,h3,h4⟩:=h;exact⟨_,h1,h3,h4⟩
  clear a1 a2 a3 a4 a5 a6 c1 c2 c3 c4 c5 c6 hab HRE HRN HVA HVB hs1 hs2;go_enter Tryz.func8,Tryz.ntmps8;go_upto_region 1 with fail
  clear hw1;go_upto_region 3 with(first
 |(go_at_call 9;(with_reducible refine(HLV.out _ HW.out).mono ?_);rintro r V ⟨rfl,hb⟩;replace HW:=iH (tW HW.out hb);clear hb)
 |(refine ld_if (by rfl) 28 _ rfl (w.heap.size+2) rfl 28 _ _ _ (HX3.out _ HW.out) Tryz.underlying28 rfl tr_size12 ?_)
 |(refine ld_if (by rfl) 28 _ rfl (w.heap.size+3) rfl 28 _ _ _ (HX4.out _ HW.out) Tryz.underlying28 rfl tr_size12 ?_)
 |(go_at_call 10;(with_reducible refine(HRT.out _ HW.out).mono ?_);rintro r V ⟨rfl,hb⟩;replace HW:=iH (tW HW.out hb);clear hb))
  obtain⟨wv,hwv⟩:∃W,W=V.drew:=⟨_,rfl⟩
  have HWD:Hid (Below w1.heap.size w1 V.drew):=HW.out.trans ((drawn_below V).mono HW.out.size);obtain⟨wd,hwd⟩:∃wd,wd=V.drew:=⟨_,rfl⟩
  rw[<-hwd]at HWD;have HKS:Hid (∀V',Below wd.heap.size wd V'->V'.heap[w.heap.size]? =some (.cells #[.int .u64 (s1:Int),.int .i64 b1] 24 (0,0))/\V'.heap[w.heap.size+1]? =some (.cells #[.int .u64 (s2:Int),.int .i64 b2] 24 (0,0))/\V'.heap[w.heap.size+2]? =some (.cells (trC ak an att (.slice aa al ac) (.slice ad am ae)) 28 (0,0))/\V'.heap[w.heap.size+3]? =some (.cells (trC bk bn btt (.slice ba bl bc) (.slice bd bm be)) 28 (0,0))):=fun V' hb=>by
   have h:=tW HWD.out hb;exact⟨HX1.out _ h,HX2.out _ h,HX3.out _ h,HX4.out _ h⟩
  have HOA:=iH (fun W (hb:Below wd.heap.size wd W)=>HOA1.out W (tW HWD.out hb));have HOB:=iH (fun W (hb:Below wd.heap.size wd W)=>HOB1.out W (tW HWD.out hb));refine wp_region_T (S:=(fun V=>V.heap[w.heap.size]? =some (.cells #[.int .u64 (s1:Int),.int .i64 b1] 24 (0,0))/\V.heap[w.heap.size+1]? =some (.cells #[.int .u64 (s2:Int),.int .i64 b2] 24 (0,0))/\V.heap[w.heap.size+2]? =some (.cells (trC ak an att (.slice aa al ac) (.slice ad am ae)) 28 (0,0))/\V.heap[w.heap.size+3]? =some (.cells (trC bk bn btt (.slice ba bl bc) (.slice bd bm be)) 28 (0,0)))) [8,9] (by kernel_rfl) (by rw[<-hwd];exact HKS.out _ (Below.refl _ _)) (fun hHeld=> ?_);refine tyL 0 27 (hy:=yieldsIf_load_row (by rfl) 24 _ rfl w.heap.size rfl #[.int .u64 (s1:Int),.int .i64 b1] 24 (0,0) _ (fun w hw=>hw.1) Tryz.underlying24 rfl (by exact conf_size12)) (h:=?_);refine tyL 1 28 (hy:=yieldsIf_load_row (by rfl) 28 _ rfl (w.heap.size+2) rfl (trC ak an att (.slice aa al ac) (.slice ad am ae)) 28 (0,0) _ (fun w hw=>hw.2.2.1) Tryz.underlying28 rfl (by exact tr_size12)) (h:=?_);(try simp only[pq]);refine tyL 3 30 (hy:=yieldsIf_load_row (by rfl) 24 _ rfl (w.heap.size+1) rfl #[.int .u64 (s2:Int),.int .i64 b2] 24 (0,0) _ (fun w hw=>hw.2.1) Tryz.underlying24 rfl (by exact conf_size12)) (h:=?_);refine tyL 4 31 (hy:=yieldsIf_load_row (by rfl) 28 _ rfl (w.heap.size+3) rfl (trC bk bn btt (.slice ba bl bc) (.slice bd bm be)) 28 (0,0) _ (fun w hw=>hw.2.2.2) Tryz.underlying28 rfl (by exact tr_size12)) (h:=?_);(try simp only[pq]);rw[<-hwd]at hHeld ⊢;clear hwd hwv;refine wpAnyT_groupA (n:=2) [2,5,6,7] (fun a0 m bq V=>∃val:Nat->Value,bq=(((((((a0.put (some 29) (val 2))).put (some 32) (val 5))).put (some 9) (val 6))).put (some 10) (val 7))/\GrK GotV12 35 #[.int .i64 0,.int .i64 0,.string ⟨#[]⟩,.pointer none] [6,7] [(2,(canT a)),(5,(canT b))] wd V m val) rfl (by kernel_rfl) ⟨fun _=>undef,rfl,GrK.start _⟩ (by assumption) ?step3 ?done3
  case step3=>
   as_aux_lemma=>
   clear hHeld;rintro m i bq V hi-hw ⟨val,rfl,hG⟩ hS;(try simp only[pq]);have HG:=iH hG;clear hG hS hw;rcases(by simp only[List.mem_cons,List.not_mem_nil,or_false]at hi;omega:i=2\/i=5\/i=6\/i=7)with rfl|rfl|rfl|rfl
   ·refine group_one (o:=⟨some 29,_,_,_,_,_⟩) rfl (fun K hK=> ?_)
    go_simp;go_at_call 11;(with_reducible refine(HOA.out V HG.out.bel).mono ?_);rintro e V2 ⟨c,rfl,hr,hb⟩;dsimp only;refine hK.out _ _ (by exact HKS.out _ (tW HG.out.bel hb)) ⟨_,rfl,GrK.call gotV_later12 HG.out hb (by decide) (fun g hg e=> ?_)⟩;simp only[List.mem_cons,List.not_mem_nil,or_false]at hg;rcases hg with rfl|rfl<;>first|(exfalso;simp at e;done)|exact hr
   ·refine group_one (o:=⟨some 32,_,_,_,_,_⟩) rfl (fun K hK=> ?_)
    go_simp;go_at_call 11;(with_reducible refine(HOB.out V HG.out.bel).mono ?_);rintro e V2 ⟨c,rfl,hr,hb⟩;dsimp only;refine hK.out _ _ (by exact HKS.out _ (tW HG.out.bel hb)) ⟨_,rfl,GrK.call gotV_later12 HG.out hb (by decide) (fun g hg e=> ?_)⟩;simp only[List.mem_cons,List.not_mem_nil,or_false]at hg;rcases hg with rfl|rfl<;>first|(exfalso;simp at e;done)|exact hr
   ·refine group_one (o:=⟨some 9,_,_,_,_,_⟩) rfl (fun K hK=> ?_)
    go_simp;refine hK.out _ _ (by exact HKS.out _ (HG.out.bel.trans ((Below.newly' V _).mono HG.out.bel.size))) ⟨_,rfl,GrK.alloc gotV_later12 gotV_old12 HG.out (fun g hg e=>by simp only[List.mem_cons,List.not_mem_nil,or_false]at hg;rcases hg with rfl|rfl<;>(simp at e))⟩
   ·refine group_one (o:=⟨some 10,_,_,_,_,_⟩) rfl (fun K hK=> ?_)
    go_simp;refine hK.out _ _ (by exact HKS.out _ (HG.out.bel.trans ((Below.newly' V _).mono HG.out.bel.size))) ⟨_,rfl,GrK.alloc gotV_later12 gotV_old12 HG.out (fun g hg e=>by simp only[List.mem_cons,List.not_mem_nil,or_false]at hg;rcases hg with rfl|rfl<;>(simp at e))⟩
  case done3=>
   as_aux_lemma=>
   clear hHeld;rintro m b' V hm ⟨val,rfl,hG⟩-
   obtain⟨x1,e1,g1,z1⟩:=hG.made 6 (by decide) (hm 6 rfl);obtain⟨x2,e2,g2,z2⟩:=hG.made 7 (by decide) (hm 7 rfl);obtain⟨S1,⟨y1,f1,r1⟩,q1⟩:=hG.got (2,(canT a)) (by simp) (hm 2 rfl);obtain⟨S2,⟨y2,f2,r2⟩,q2⟩:=hG.got (5,(canT b)) (by simp) (hm 5 rfl);have n12:x1≠x2:=fun e=>hG.apart 6 (by decide) 7 (by decide) (hm 6 rfl) (hm 7 rfl) (by decide) (by rw[e1,e2,e])
   have q11:=q1 6 (by decide) (hm 6 rfl) x1 e1;have q12:=q1 7 (by decide) (hm 7 rfl) x2 e2;have q21:=q2 6 (by decide) (hm 6 rfl) x1 e1;have q22:=q2 7 (by decide) (hm 7 rfl) x2 e2;have hbel:=hG.bel;rw[e1,e2];dsimp only at f1 f2 r1 r2;rw[f1,f2];have HZ1:=iH z1;have HZ2:=iH z2;have HNE:=iH n12;have HV1:=iH r1;have HV2:=iH r2;have HQ:=iH (And.intro (And.intro q11 q12) (And.intro q21 q22));have HGE:=iH (And.intro g1 g2);have HBL:=iH hbel;clear hG hm e1 e2 f1 f2 r1 r2 q1 q2 n12 g1 g2 z1 z2 hbel q11 q12 q21 q22;(try simp only[pq]);refine tkU 8 none (h:=fun K hK=> ?_);refine st_agg_wp 35 _ _ rfl x1 (celC y1) rfl rfl 35 #[.int .i64 0,.int .i64 0,.string ⟨#[]⟩,.pointer none] (HZ1.out) val_size rfl (celC_one y1) ?_;intro wa hwa kwa;refine hK.out _ _ ?_;clear hK K;(try simp only[pq]);refine tkU 9 none (h:=fun K hK=> ?_);refine st_agg_wp 35 _ _ rfl x2 (celC y2) rfl rfl 35 #[.int .i64 0,.int .i64 0,.string ⟨#[]⟩,.pointer none] (kwa.other HZ2.out (fun e=>HNE.out e.symm)) val_size rfl (celC_one y2) ?_;intro wb hwb kwb;refine hK.out _ _ ?_;clear hK K;(try simp only[pq]);refine wpAnyT_done (by kernel_rfl) ?_ _;have H1:=iH (kwb.other hwa HNE.out);have H2:=iH hwb;have HY1:Hid (VAt (fun g=>g<wb.heap.size) wb (canT a) y1):=((HV1.out.kq (Kq.only kwa HQ.out.1.1)).kq (Kq.only kwb HQ.out.1.2)).old.weak fun g h=>h.2
   have HY2:Hid (VAt (fun g=>g<wb.heap.size) wb (canT b) y2):=((HV2.out.kq (Kq.only kwa HQ.out.2.1)).kq (Kq.only kwb HQ.out.2.2)).old.weak fun g h=>h.2
   have HBB:Hid (Below wd.heap.size wd wb):=HBL.out.trans ((kwa.below HGE.out.1).trans (kwb.below HGE.out.2));clear hwa hwb kwa kwb HZ1 HZ2 HV1 HV2 HQ HGE HBL HNE;go_upto_region 4 with fail
   have HWB:=iH (tW HWD.out HBB.out);obtain⟨we,hwe⟩:∃we,we=wb.drew:=⟨_,rfl⟩
   have hbe:Below wb.heap.size wb we:=by rw[hwe];exact drawn_below wb
   have HWE:=iH (tW HWB.out hbe);have H1E:=iH (kW hbe H1.out);have H2E:=iH (kW hbe H2.out);have HY1E:=iH ((HY1.out.later hbe).weak (S':=fun _=>True) fun _ _=>trivial);have HY2E:=iH ((HY2.out.later hbe).weak (S':=fun _=>True) fun _ _=>trivial);have HKE:Hid (∀V',Below we.heap.size we V'->V'.heap[w.heap.size+2]? =some (.cells (trC ak an att (.slice aa al ac) (.slice ad am ae)) 28 (0,0))/\V'.heap[w.heap.size+3]? =some (.cells (trC bk bn btt (.slice ba bl bc) (.slice bd bm be)) 28 (0,0))):=fun V' hb=>by
    have h:=tW HWE.out hb;exact⟨HX3.out _ h,HX4.out _ h⟩
   have HCA:=iH (fun W (hb:Below we.heap.size we W)=>HCA1.out W (tW HWE.out hb));have HCB:=iH (fun W (hb:Below we.heap.size we W)=>HCB1.out W (tW HWE.out hb));clear hbe HKS HOA HOB;have HKS:=HKE;clear HKE;refine wp_region_T (S:=(fun V=>V.heap[w.heap.size+2]? =some (.cells (trC ak an att (.slice aa al ac) (.slice ad am ae)) 28 (0,0))/\V.heap[w.heap.size+3]? =some (.cells (trC bk bn btt (.slice ba bl bc) (.slice bd bm be)) 28 (0,0)))) [6,7] (by kernel_rfl) (by rw[<-hwe];exact HKS.out _ (Below.refl _ _)) (fun hHeld=> ?_);refine tyL 0 33 (hy:=yieldsIf_load_row (by rfl) 28 _ rfl (w.heap.size+2) rfl (trC ak an att (.slice aa al ac) (.slice ad am ae)) 28 (0,0) _ (fun w hw=>hw.1) Tryz.underlying28 rfl (by exact tr_size12)) (h:=?_);refine tyL 2 35 (hy:=yieldsIf_load_row (by rfl) 28 _ rfl (w.heap.size+3) rfl (trC bk bn btt (.slice ba bl bc) (.slice bd bm be)) 28 (0,0) _ (fun w hw=>hw.2) Tryz.underlying28 rfl (by exact tr_size12)) (h:=?_);(try simp only[pq]);rw[<-hwe]at hHeld ⊢;clear hwe;refine wpAnyT_groupA (n:=2) [1,3,4,5] (fun a0 m bq V=>∃val:Nat->Value,bq=(((((((a0.put (some 34) (val 1))).put (some 36) (val 3))).put (some 11) (val 4))).put (some 12) (val 5))/\GrK GotT12 28 (trC 0 0 ⟨#[]⟩ (.slice none 0 0) (.slice none 0 0)) [4,5] [(1,(canT a)),(3,(canT b))] we V m val) rfl (by kernel_rfl) ⟨fun _=>undef,rfl,GrK.start _⟩ (by assumption) ?step4 ?done4
   case step4=>
    as_aux_lemma=>
    clear hHeld;rintro m i bq V hi-hw ⟨val,rfl,hG⟩ hS;(try simp only[pq]);have HG:=iH hG;clear hG hS hw;rcases(by simp only[List.mem_cons,List.not_mem_nil,or_false]at hi;omega:i=1\/i=3\/i=4\/i=5)with rfl|rfl|rfl|rfl
    ·refine group_one (o:=⟨some 34,_,_,_,_,_⟩) rfl (fun K hK=> ?_)
     go_simp;go_at_call 12;(with_reducible refine(HCA.out V HG.out.bel).mono ?_);rintro e V2 ⟨c,rfl,hr,hb⟩;dsimp only;refine hK.out _ _ (by exact HKS.out _ (tW HG.out.bel hb)) ⟨_,rfl,GrK.call gotT_later12 HG.out hb (by decide) (fun g hg e=> ?_)⟩;simp only[List.mem_cons,List.not_mem_nil,or_false]at hg;rcases hg with rfl|rfl<;>first|(exfalso;simp at e;done)|exact hr
    ·refine group_one (o:=⟨some 36,_,_,_,_,_⟩) rfl (fun K hK=> ?_)
     go_simp;go_at_call 12;(with_reducible refine(HCB.out V HG.out.bel).mono ?_);rintro e V2 ⟨c,rfl,hr,hb⟩;dsimp only;refine hK.out _ _ (by exact HKS.out _ (tW HG.out.bel hb)) ⟨_,rfl,GrK.call gotT_later12 HG.out hb (by decide) (fun g hg e=> ?_)⟩;simp only[List.mem_cons,List.not_mem_nil,or_false]at hg;rcases hg with rfl|rfl<;>first|(exfalso;simp at e;done)|exact hr
    ·refine group_one (o:=⟨some 11,_,_,_,_,_⟩) rfl (fun K hK=> ?_)
     go_simp;refine hK.out _ _ (by exact HKS.out _ (HG.out.bel.trans ((Below.newly' V _).mono HG.out.bel.size))) ⟨_,rfl,GrK.alloc gotT_later12 gotT_old12 HG.out (fun g hg e=>by simp only[List.mem_cons,List.not_mem_nil,or_false]at hg;rcases hg with rfl|rfl<;>(simp at e))⟩
    ·refine group_one (o:=⟨some 12,_,_,_,_,_⟩) rfl (fun K hK=> ?_)
     go_simp;refine hK.out _ _ (by exact HKS.out _ (HG.out.bel.trans ((Below.newly' V _).mono HG.out.bel.size))) ⟨_,rfl,GrK.alloc gotT_later12 gotT_old12 HG.out (fun g hg e=>by simp only[List.mem_cons,List.not_mem_nil,or_false]at hg;rcases hg with rfl|rfl<;>(simp at e))⟩
   case done4=>
    as_aux_lemma=>
    clear hHeld;rintro m b' V4 hm ⟨val,rfl,hG⟩-
    obtain⟨z1,e1,g1,hz1⟩:=hG.made 4 (by decide) (hm 4 rfl);obtain⟨z2,e2,g2,hz2⟩:=hG.made 5 (by decide) (hm 5 rfl);obtain⟨S3,r1,q1⟩:=hG.got (1,(canT a)) (by simp) (hm 1 rfl);obtain⟨S4,r2,q2⟩:=hG.got (3,(canT b)) (by simp) (hm 3 rfl);have n12:z1≠z2:=fun e=>hG.apart 4 (by decide) 5 (by decide) (hm 4 rfl) (hm 5 rfl) (by decide) (by rw[e1,e2,e])
    have q11:=q1 4 (by decide) (hm 4 rfl) z1 e1;have q12:=q1 5 (by decide) (hm 5 rfl) z2 e2;have q21:=q2 4 (by decide) (hm 4 rfl) z1 e1;have q22:=q2 5 (by decide) (hm 5 rfl) z2 e2;have hbel:=hG.bel;rw[e1,e2];dsimp only at r1 r2;obtain⟨xk,xn,xt,xa,xl,xc,xd,xm,xe,f1⟩:=tr_shape (TrS.trv r1);obtain⟨yk,yn,yt,ya,yl,yc,yd,ym,ye,f2⟩:=tr_shape (TrS.trv r2);rw[f1]at r1 ⊢;rw[f2]at r2 ⊢;have HZ1:=iH hz1;have HZ2:=iH hz2;have HNE:=iH n12;have HV1:Hid (TrS S3 V4 (canT a) (.agg (trC xk xn xt (.slice xa xl xc) (.slice xd xm xe)))):=r1;have HV2:Hid (TrS S4 V4 (canT b) (.agg (trC yk yn yt (.slice ya yl yc) (.slice yd ym ye)))):=r2;have HQ:=iH (And.intro (And.intro q11 q12) (And.intro q21 q22));have HGE:=iH (And.intro g1 g2);have HBL:=iH hbel;clear hG hm e1 e2 f1 f2 r1 r2 q1 q2 n12 g1 g2 hz1 hz2 hbel q11 q12 q21 q22;(try simp only[pq]);refine tkU 6 none (h:=fun K hK=> ?_);refine st_agg_wp 28 _ _ rfl z1 (trC xk xn xt (.slice xa xl xc) (.slice xd xm xe)) rfl rfl 28 (trC 0 0 ⟨#[]⟩ (.slice none 0 0) (.slice none 0 0)) (HZ1.out) tr_size12 rfl (by simp[Value.oneCell']) ?_;intro wf hwf kwf;refine hK.out _ _ ?_;clear hK K;(try simp only[pq]);refine tkU 7 none (h:=fun K hK=> ?_);refine st_agg_wp 28 _ _ rfl z2 (trC yk yn yt (.slice ya yl yc) (.slice yd ym ye)) rfl rfl 28 (trC 0 0 ⟨#[]⟩ (.slice none 0 0) (.slice none 0 0)) (kwf.other HZ2.out (fun e=>HNE.out e.symm)) tr_size12 rfl (by simp[Value.oneCell']) ?_;intro wg hwg kwg;refine hK.out _ _ ?_;clear hK K;(try simp only[pq]);refine wpAnyT_done (by kernel_rfl) ?_ _;have hba:=kwf.below HGE.out.1;have hbg:Below we.heap.size we wg:=HBL.out.trans (hba.trans (kwg.below HGE.out.2));have HG1:=iH (kW hbg H1E.out);have HG2:=iH (kW hbg H2E.out);have HG3:=iH (kwg.other hwf HNE.out);have HG4:=iH hwg;have hta:TrV wg (canT a) (.agg (trC xk xn xt (.slice xa xl xc) (.slice xd xm xe))):=((HV1.out.kept (KT.grown kwf.by_ (fun X e=>by cases e;exact HQ.out.1.1))).kept (KT.grown kwg.by_ (fun X e=>by cases e;exact HQ.out.1.2))).trv
    have htb:TrV wg (canT b) (.agg (trC yk yn yt (.slice ya yl yc) (.slice yd ym ye))):=((HV2.out.kept (KT.grown kwf.by_ (fun X e=>by cases e;exact HQ.out.2.1))).kept (KT.grown kwg.by_ (fun X e=>by cases e;exact HQ.out.2.2))).trv;have HWG:=iH (tW HWE.out hbg);have HYA:=iH (HY1E.out.later hbg);have HYB:=iH (HY2E.out.later hbg);have HTG:=iH (fun W (hb:Below wg.heap.size wg W)=>HT1.out W (tW HWG.out hb));obtain⟨R,hR⟩:∃R,R=witT (canT a) (canT b):=⟨_,rfl⟩
    have HRW:Hid (∀W,Below wg.heap.size wg W->Calls Tryz.prog 32 #[.agg (trC xk xn xt (.slice xa xl xc) (.slice xd xm xe)),.agg (trC yk yn yt (.slice ya yl yc) (.slice yd ym ye))] W fun e w'=>e=.returned (.bool R)/\Below W.heap.size W w'):=fun W hb=>by rw[hR];exact rf_Within12 _ _ _ _ W (hta.later hb) (htb.later hb)
    have HWI:Hid (∀W,Below wg.heap.size wg W->Calls Tryz.prog 31 #[.agg (celC y1),.agg (celC y2)] W fun e w'=>e=.returned (.bool R)/\Below W.heap.size W w'):=fun W hb=>by rw[hR];exact od_Within _ _ _ _ W HVBA.out HVBB.out (HYA.out.later hb) (HYB.out.later hb) (HTG.out W hb)
    obtain⟨ca,hca⟩:∃q,q=canT a:=⟨_,rfl⟩
    rw[<-hca]at HVBA HYA;have HWV:Hid (∀W,Below wg.heap.size wg W->Calls Tryz.prog 31 #[.agg (celC y1),.agg (celC y1)] W fun e w'=>e=.returned (.bool true)/\Below W.heap.size W w'):=fun W hb=>by
     have h:=od_Within ca ca _ _ W HVBA.out HVBA.out (HYA.out.later hb) (HYA.out.later hb) (HTG.out W hb);rw[wit_self]at h;exact h
    have HWP:Hid (∀W,Below wg.heap.size wg W->∀pt z,pt∈ca.xs->VAt (fun _=>True) W pt z->Calls Tryz.prog 31 #[.agg (celC y1),.agg (celC z)] W fun e w'=>e=.returned (.bool true)/\Below W.heap.size W w'):=fun W hb pt z hp hz=>by
     have h:=od_Within ca pt _ _ W HVBA.out (HVBA.out.part hp) (HYA.out.later hb) hz (HTG.out W hb);rw[wit_part hp]at h;exact h
    have HSTS:=iH (fun W (hb:Below wg.heap.size wg W)=>va_Steps W ca y1 HVBA.out (HYA.out.later hb) (HTG.out W hb));have HGT:=iH (fun W (hb:Below wg.heap.size wg W) s i u hu=>va_Get W ca y1 HVBA.out (HYA.out.later hb) s i u hu);clear hwf hwg kwf kwg hba hbg HZ1 HZ2 HV1 HV2 HQ HGE HBL HNE H1E H2E HY1E HY2E HKS HCA HCB hta htb hR HYA HYB hca HVBB;have HK5:Hid (∀V',Below wg.heap.size wg V'->V'.heap[x1]? =some (.cells (celC y1) 35 (0,0))/\V'.heap[x2]? =some (.cells (celC y2) 35 (0,0))/\V'.heap[z1]? =some (.cells (trC xk xn xt (.slice xa xl xc) (.slice xd xm xe)) 28 (0,0))/\V'.heap[z2]? =some (.cells (trC yk yn yt (.slice ya yl yc) (.slice yd ym ye)) 28 (0,0))):=fun V' hb=>⟨kW hb HG1.out,kW hb HG2.out,kW hb HG3.out,kW hb HG4.out⟩
    go_upto_region 5 with fail
    have HW:Hid (Below wg.heap.size wg wg.drew):=drawn_below wg;have HBW:=iH (tW HB1.out HWG.out);clear HG1 HG2 HG3 HG4 HX1 HX2 HX3 HX4;refine wp_region_T (S:=(fun V=>V.heap[x1]? =some (.cells (celC y1) 35 (0,0))/\V.heap[x2]? =some (.cells (celC y2) 35 (0,0))/\V.heap[z1]? =some (.cells (trC xk xn xt (.slice xa xl xc) (.slice xd xm xe)) 28 (0,0))/\V.heap[z2]? =some (.cells (trC yk yn yt (.slice ya yl yc) (.slice yd ym ye)) 28 (0,0)))) [] (by kernel_rfl) (by exact HK5.out _ HW.out) (fun hHeld=> ?_);refine tyL 0 37 (hy:=yieldsIf_load_row (by rfl) 35 _ rfl x1 rfl (celC y1) 35 (0,0) _ (fun w hw=>hw.1) Tryz.underlying35 rfl (by exact val_size)) (h:=?_);refine tyL 1 38 (hy:=yieldsIf_load_row (by rfl) 35 _ rfl x2 rfl (celC y2) 35 (0,0) _ (fun w hw=>hw.2.1) Tryz.underlying35 rfl (by exact val_size)) (h:=?_);(try simp only[pq]);refine tyL 3 40 (hy:=yieldsIf_load_row (by rfl) 28 _ rfl z1 rfl (trC xk xn xt (.slice xa xl xc) (.slice xd xm xe)) 28 (0,0) _ (fun w hw=>hw.2.2.1) Tryz.underlying28 rfl (by exact tr_size12)) (h:=?_);refine tyL 4 41 (hy:=yieldsIf_load_row (by rfl) 28 _ rfl z2 rfl (trC yk yn yt (.slice ya yl yc) (.slice yd ym ye)) 28 (0,0) _ (fun w hw=>hw.2.2.2) Tryz.underlying28 rfl (by exact tr_size12)) (h:=?_);(try simp only[pq]);refine tkO 2 (some 39) (h:=fun K hK=> ?_);go_simp;go_at_call 31;(with_reducible refine(HWI.out _ (by exact HW.out)).mono ?_);rintro r wr2 ⟨rfl,hb⟩;replace HW:=iH (tW HW.out hb);clear hb;dsimp only;refine hK.out _ _ (by exact HK5.out _ HW.out) (fun hHeld=> ?_);clear hK K;(try simp only[pq]);refine tkO 5 (some 42) (h:=fun K hK=> ?_);go_simp;go_at_call 32;(with_reducible refine(HRW.out _ (by exact HW.out)).mono ?_);rintro r wr5 ⟨rfl,hb⟩;replace HW:=iH (tW HW.out hb);clear hb;dsimp only;refine hK.out _ _ (by exact HK5.out _ HW.out) (fun hHeld=> ?_);clear hK K;(try simp only[pq])
    refine wpAnyT_takeL (i:=6) (oi:=⟨some 43,_,_,_,_,_⟩) (v:=(.bool false)) rfl (by kernel_rfl) (by kernel_rfl) (by kernel_rfl) (by kernel_rfl) (fun _ _ _ h=>h) (Or.inl ⟨by rfl,?hg3_6⟩) (by assumption) ?rg3_6
    case hg3_6=>(intro w hSw;(try dsimp only at hSw);first|(go_simp;done)|(go_simp;simp;done))
    (try simp only[pq]);refine wpAnyT_done (by kernel_rfl) ?_ _;clear hHeld;go_upto_region 8 with(first
     |(refine ld_if rfl 35 _ rfl x1 rfl 35 _ _ _ (HK5.out _ HW.out).1 Tryz.underlying35 rfl val_size ?_)
     |(go_at_call 33;(with_reducible refine(HSTS.out _ HW.out).mono ?_);rintro r w5 ⟨sv,rfl,hsv,hb⟩;obtain⟨ad',cap',sb,so,rfl,had,hcs⟩:=stp_cut12 hsv;have HA:=iH had;have HCS:=iH hcs;replace HW:=iH (tW HW.out hb);clear hb hsv had hcs))
    have hsl:=steps_len HVBA.out.1.1;have hxn:=HVBA.out.len;obtain⟨N,hN⟩:∃N,N=(stepsT ca).length:=⟨_,rfl⟩
    rw[<-hN]at HA ⊢;have hn4:(N:Int)<=16383:=by omega
    have HNL:Hid (N=(stepsT ca).length/\N=ca.xs.length):=⟨hN,by rw[hN,hsl]⟩
    clear hN hsl hxn;go_loopw [47] (fun i W=>∃k:Nat,k<=N/\i=.int .i64 (k:Int)/\Hid (Below w5.heap.size w5 W)) (fun i _=>N-(intOf i).toNat)
    case atStart=>exact⟨0,Nat.zero_le _,rfl,Below.refl _ _⟩
    case round=>
     obtain⟨k,hk,rfl,HL⟩:=hrel;have HWL:=iH (tW HW.out HL.out);by_cases hlt:k<N
     case neg=>
      obtain rfl:k=N:=by omega
      clear hlt;go_wp2_with (first
       |(refine ld_if rfl 35 _ rfl x1 rfl 35 _ _ _ (HK5.out _ HWL.out).1 Tryz.underlying35 rfl val_size ?_)
       |(go_at_call 31;(with_reducible refine(HWV.out _ HWL.out).mono ?_);rintro r w9 ⟨rfl,hb⟩;have HW9:=iH (tW HWL.out hb);clear hb))
      have hb:=tW HBW.out HW9.out;go_ret;exact⟨rfl,hb⟩
     have hlt':(k:Int)<(N:Int):=by omega
     have i0:(0:Int)<=(k:Int):=by omega
     have hks:k<(stepsT ca).length:=by rw[<-HNL.out.1];exact hlt
     have hkx:k<ca.xs.length:=by rw[<-HNL.out.2];exact hlt
     obtain rfl:=HA.out (by omega);have hq:=HCS.out k hks;have hgs:=get_step12 HVBA.out.1.1 (j:=k) hks;have hsm:=stp_small12 HVBA.out (e:=(stepsT ca)[k]) (List.getElem_mem hks);obtain⟨e,he⟩:∃e,e=(stepsT ca)[k]:=⟨_,rfl⟩
     rw[<-he]at hq hgs hsm;obtain⟨e1,e2,e3⟩:=e;obtain⟨pt,hpt⟩:∃pt,pt=ca.xs[k]:=⟨_,rfl⟩
     have HPM:Hid (pt∈ca.xs):=by show _∈_;rw[hpt];exact List.getElem_mem hkx
     have HQ:=iH (show wr.rangeAt sb (so+k*3) ((#[.int .i64 e1,.int .i64 e2,.string e3]:Array Value)).toList from rangeAt_later hq HL.out);rw[<-hpt]at hgs;have HGE:Hid (∀W,Below wg.heap.size wg W->Calls Tryz.prog 34 #[.agg (celC y1),.agg #[.int .i64 e1,.int .i64 e2,.string e3]] W fun r w'=>∃z,r=.returned (.tuple #[.agg (celC z),.int .i64 0])/\VAt (fun _=>True) w' pt z/\Below W.heap.size W w'):=fun W hb=>by
      have h:=HGT.out W hb e1 e2 e3 hsm;simp only at hgs;rw[hgs]at h;exact h
     have HLT:=iH hlt;clear hlt hks hkx hq hgs hsm he hpt;go_upto_region 10 with(first
      |(refine ld_stp12 (by rfl) _ rfl sb (so+k*3) rfl #[.int .i64 e1,.int .i64 e2,.string e3] HQ.out rfl ?_)
      |(refine st_agg rfl 67 _ _ rfl wr.heap.size #[.int .i64 e1,.int .i64 e2,.string e3] rfl rfl 67 #[.int .i64 0,.int .i64 0,.string ⟨#[]⟩] (heap_alloc_last _ _) step_size12 rfl (by simp[Value.oneCell']) ?_;intro w7 h7 k7))
     have hb7:Below wr.heap.size wr w7:=(Below.newly' _ _).trans (k7.below (Nat.le_refl _));obtain⟨D,hD⟩:∃D,D=wr.heap.size:=⟨_,rfl⟩
     have HD7:=iH h7;rw[<-hD]at HD7 ⊢;have HL7:=iH (tW HL.out hb7);have HW7:=iH (tW HWL.out hb7);clear h7 k7 hb7 hD HQ;go_upto_region 11 with(first
      |(refine ld_if rfl 35 _ rfl x1 rfl 35 _ _ _ (HK5.out _ HW7.out).1 Tryz.underlying35 rfl val_size ?_)
      |(refine ld_if rfl 67 _ rfl D rfl 67 _ _ _ HD7.out Tryz.underlying67 rfl step_size12 ?_)
      |(go_at_call 34;(with_reducible refine(HGE.out _ HW7.out).mono ?_);rintro r w8 ⟨z,rfl,hz,hb⟩;have HZ8:=iH hz;have HL8:=iH (tW HL7.out hb);have HW8:=iH (tW HW7.out hb);clear hz hb)
      |(refine st_agg rfl 35 _ _ rfl w8.heap.size (celC z) rfl rfl 35 #[.int .i64 0,.int .i64 0,.string ⟨#[]⟩,.pointer none] (heap_alloc_last _ _) val_size rfl (celC_one z) ?_;intro w9 h9 k9))
     have hb9:Below w8.heap.size w8 w9:=(Below.newly' _ _).trans (k9.below (Nat.le_refl _));obtain⟨T,hT⟩:∃T,T=w8.heap.size:=⟨_,rfl⟩
     have HT9:=iH h9;rw[<-hT]at HT9 ⊢;have HL9:=iH (tW HL8.out hb9);have HW9:=iH (tW HW8.out hb9);have HZ9:=iH (HZ8.out.later hb9);clear h9 k9 hb9 hT HZ8;go_wp2_with (first
      |(refine ld_if (by rfl) 35 _ rfl x1 rfl 35 _ _ _ (HK5.out _ HW9.out).1 Tryz.underlying35 rfl val_size ?_)
      |(refine ld_if (by rfl) 35 _ rfl T rfl 35 _ _ _ HT9.out Tryz.underlying35 rfl val_size ?_)
      |(go_at_call 31;(with_reducible refine(HWP.out _ HW9.out _ _ HPM.out HZ9.out).mono ?_);rintro r wx ⟨rfl,hb⟩;have HLX:=iH (tW HL9.out hb);clear hb))
     go_roundw
     case rel=>exact⟨k+1,by have:=HLT.out;omega,by go_num,HLX.out⟩
     case measure=>have:=HLT.out;simp[intOf];omega
end Go.Proofs.YtengibnpebfblaaGreatDoor
