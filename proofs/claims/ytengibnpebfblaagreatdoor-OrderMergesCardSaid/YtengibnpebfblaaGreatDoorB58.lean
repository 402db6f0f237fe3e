import Derived.Test.YtengibnpebfblaaGreatDoorB57
import Derived.Test.YtengibnpebfblaaGreatDoorB50
set_option maxRecDepth 1000000
set_option maxHeartbeats 8000000
set_option linter.unusedSimpArgs false
namespace Go.Proofs.YtengibnpebfblaaGreatDoor
open Go.RowKit
theorem orderMerges_walk (s1:Nat) (b1:Int) (s2:Nat) (b2:Int) (v:Value) (l:List Tr) (u:Value) (m:List Tr) (hs1:s1<18446744073709551616) (hs2:s2<18446744073709551616) (w:World) (hv:TrLs w v l) (hu:TrLs w u m) (hT:Tab6 w):
  Calls Tryz.prog 7 #[.agg #[.int .u64 (s1:Int),.int .i64 b1],.agg #[.int .u64 (s2:Int),.int .i64 b2],v,u] w fun e w'=>e=.returned (.bool true)/\Below w.heap.size w w':=by
 obtain⟨w1,hw1⟩:∃w1,(w.alloc (.cells #[.int .u64 (s1:Int),.int .i64 b1] 24)).alloc (.cells #[.int .u64 (s2:Int),.int .i64 b2] 24)=w1:=⟨_,rfl⟩
 obtain⟨hb1,hx1,hx2,hs⟩:=two_new hw1;have HX1:=iH (fun W (hb:Below w1.heap.size w1 W)=>kW hb hx1);have HX2:=iH (fun W (hb:Below w1.heap.size w1 W)=>kW hb hx2);have HB1:=iH hb1;have HVL:=iH (fun W (hb:Below w1.heap.size w1 W)=>(hv.later hb1).later hb);have HVM:=iH (fun W (hb:Below w1.heap.size w1 W)=>(hu.later hb1).later hb);have HT1:=iH (fun W (hb:Below w1.heap.size w1 W)=>(hT.below hb1).below hb);have HLV:=iH (fun W (hb:Below w1.heap.size w1 W)=>lw_live12 W (HT1.out W hb));obtain⟨rl,hrl⟩:∃r,r=(l.all okR&&decide (l.length<=12)):=⟨_,rfl⟩
 obtain⟨rm,hrm⟩:∃r,r=(m.all okR&&decide (m.length<=12)):=⟨_,rfl⟩
 have HRL:Hid (∀W,Below w1.heap.size w1 W->Calls Tryz.prog 10 #[v] W fun e w'=>e=.returned (.bool rl)/\Below W.heap.size W w'):=fun W hb=>by rw[hrl];exact lw_right W v l (HVL.out W hb)
 have HRM:Hid (∀W,Below w1.heap.size w1 W->Calls Tryz.prog 10 #[u] W fun e w'=>e=.returned (.bool rm)/\Below W.heap.size W w'):=fun W hb=>by rw[hrm];exact lw_right W u m (HVM.out W hb)
 have HRE:=iH (And.intro hrl hrm);have HVV:=iH (And.intro hv hu);have HSS:=iH (And.intro hs1 hs2);have HW:Hid (Below w1.heap.size w1 w1):=Below.refl _ _;clear hx1 hx2 hb1 hv hu hT hrl hrm hs hs1 hs2;cases rl with
 |false=>
  go_enter Tryz.func7,Tryz.ntmps7;go_upto_region 1 with fail
  clear hw1;go_wp2_with (first
 |(go_at_call 9;(with_reducible refine(HLV.out _ HW.out).mono ?_);rintro r V ⟨rfl,hb⟩;replace HW:=iH (tW HW.out hb);clear hb)
 |(go_at_call 10;(with_reducible refine(HRL.out _ HW.out).mono ?_);rintro r V ⟨rfl,hb⟩;replace HW:=iH (tW HW.out hb);clear hb)
 |(go_at_call 10;(with_reducible refine(HRM.out _ HW.out).mono ?_);rintro r V ⟨rfl,hb⟩;replace HW:=iH (tW HW.out hb);clear hb))
  have hb:=tW HB1.out HW.out;go_ret;exact⟨rfl,hb⟩
 |true=>
 cases rm with
 |false=>
  go_enter Tryz.func7,Tryz.ntmps7;go_upto_region 1 with fail
  clear hw1;go_wp2_with (first
 |(go_at_call 9;(with_reducible refine(HLV.out _ HW.out).mono ?_);rintro r V ⟨rfl,hb⟩;replace HW:=iH (tW HW.out hb);clear hb)
 |(go_at_call 10;(with_reducible refine(HRL.out _ HW.out).mono ?_);rintro r V ⟨rfl,hb⟩;replace HW:=iH (tW HW.out hb);clear hb)
 |(go_at_call 10;(with_reducible refine(HRM.out _ HW.out).mono ?_);rintro r V ⟨rfl,hb⟩;replace HW:=iH (tW HW.out hb);clear hb))
  have hb:=tW HB1.out HW.out;go_ret;exact⟨rfl,hb⟩
 |true=>
  obtain⟨ol,nl⟩:=oks_of HRE.out.1.symm;obtain⟨om,nm⟩:=oks_of HRE.out.2.symm;have HVA:=iH (can_vals HVV.out.1 ol);have HVB:=iH (can_vals HVV.out.2 om);have HNN:Hid ((l.map canT).length<=12/\(m.map canT).length<=12):=by show _/\_;rw[List.length_map,List.length_map];exact⟨nl,nm⟩
  have HAL:=iH (fun W (hb:Below w1.heap.size w1 W)=>lw_all s1 b1 s2 b2 l v W HSS.out.1 HSS.out.2 (HVL.out W hb) ol (by omega) (HT1.out W hb));have HAM:=iH (fun W (hb:Below w1.heap.size w1 W)=>lw_all s2 b2 s1 b1 m u W HSS.out.2 HSS.out.1 (HVM.out W hb) om (by omega) (HT1.out W hb));obtain⟨x,hx⟩:∃x,x=l.map canT:=⟨_,rfl⟩
  obtain⟨y,hy⟩:∃y,y=m.map canT:=⟨_,rfl⟩
  rw[<-hx]at HVA HAL HNN;rw[<-hy]at HVB HAM HNN;have HEQ:Hid (mrg (srtT x) (srtT y)=srtT (x++y)):=mrg_all x y (fun z hz=>(HVA.out z hz).1.1) (fun z hz=>(HVB.out z hz).1.1);clear ol nl om nm hx hy HRE HVV HSS HVL HVM;go_enter Tryz.func7,Tryz.ntmps7;go_upto_region 1 with fail
  clear hw1;go_upto_region 5 with(first
   |(go_at_call 9;(with_reducible refine(HLV.out _ HW.out).mono ?_);rintro r V ⟨rfl,hb⟩;replace HW:=iH (tW HW.out hb);clear hb)
   |(go_at_call 10;(with_reducible refine(HRL.out _ HW.out).mono ?_);rintro r V ⟨rfl,hb⟩;replace HW:=iH (tW HW.out hb);clear hb)
   |(go_at_call 10;(with_reducible refine(HRM.out _ HW.out).mono ?_);rintro r V ⟨rfl,hb⟩;replace HW:=iH (tW HW.out hb);clear hb)
   |(refine ld_if rfl 24 _ rfl w.heap.size rfl 24 _ _ _ (HX1.out _ HW.out) Tryz.underlying24 rfl conf_size12 ?_)
   |(refine ld_if rfl 24 _ rfl (w.heap.size+1) rfl 24 _ _ _ (HX2.out _ HW.out) Tryz.underlying24 rfl conf_size12 ?_)
   |(go_at_call 22;(with_reducible refine(HAL.out _ HW.out).mono ?_);rintro r wa ⟨vx,tx,rfl,hxx,hb⟩;have HXX:=iH hxx;have HS2:=iH hb.size;replace HW:=iH (tW HW.out hb);clear hb hxx)
   |(go_at_call 22;(with_reducible refine(HAM.out _ HW.out).mono ?_);rintro r wb ⟨vy,ty,rfl,hyy,hb⟩;have HYY:=iH hyy;have HXY:=iH (HXX.out.later hb);replace HW:=iH (tW HW.out hb);clear hb hyy))
  obtain⟨⟨xs,x1,x2,x3⟩,cx,x4,x5,x6⟩:=HXY.out;obtain⟨⟨ys,y1,y2,y3⟩,cy,y4,y5,y6⟩:=HYY.out;have hlx:=HXY.out.lists (by have:=HNN.out;omega) (by have:=HNN.out;omega);have hly:=HYY.out.lists (by have:=HNN.out;omega) (by have:=HNN.out;omega);have HE0:Hid (RowsW wb.heap.size 28 5 (.slice (some ⟨wb.heap.size,0,none⟩) 0 0) [] (wb.alloc (.cells #[] 28))):=rowsW_zero (Nat.le_refl _) (by simp) (heap_alloc_last _ _);have hbn:=Below.newly' wb (.cells #[] 28);have HN1:Hid (wb.heap.size<=(wb.alloc (.cells #[] 28)).heap.size):=hbn.size;have HC1:Hid (∀V,Below wb.heap.size wb V->CutAt (fun _=>True) V 5 tx (cx.flatMap Array.toList) cx.length):=fun V hb=>(((lsT_cut x5.own.lsT).weak (S':=fun _=>True) fun _ _=>trivial)).later hb
  have HC2:Hid (∀V,Below wb.heap.size wb V->CutAt (fun _=>True) V 5 ty (cy.flatMap Array.toList) cy.length):=fun V hb=>(((lsT_cut y5.own.lsT).weak (S':=fun _=>True) fun _ _=>trivial)).later hb
  have HP:Hid ((∀c∈cx,c.size=5)/\(∀c∈cy,c.size=5)/\cx.length=x.length/\cy.length=y.length):=⟨x5.2.2,y5.2.2,x4,y4⟩
  have hone:∀(cs:List (Array Value)) (t:List Tr),cs.length=t.length->(∀j (h:j<t.length) (h':j<cs.length),TrV wb t[j] (.agg cs[j]))->∀c∈cs,c.all (·.oneCell')=true:=fun cs t hl h c hc=>by
   obtain⟨j,hj,rfl⟩:=List.mem_iff_getElem.1 hc;obtain⟨k,n,t,a,l,c,a',l',c',e⟩:=(h j (by omega) hj).cells;rw[e];simp[Value.oneCell']
  have HO1:=iH (hone cx x x4 fun j h h'=>(x6 j h h').trv);have HO2:=iH (hone cy y y4 fun j h h'=>(y6 j h h').trv);have HTB:Hid (∀V,Below wb.heap.size wb V->∀j (h:j<(x++y).length) (h':j<(cx++cy).length),TrV V (x++y)[j] (.agg (cx++cy)[j])):=fun V hb j h h'=>by
   rw[List.length_append]at h h';rcases Nat.lt_or_ge j x.length with hj|hj
   ·rw[List.getElem_append_left hj,List.getElem_append_left (by omega)]
    exact(x6 j hj (by omega)).trv.later hb
   ·have e:j-cx.length=j-x.length:=by rw[x4]
    rw[List.getElem_append_right hj,List.getElem_append_right (by omega)];have h5:=(y6 (j-x.length) (by omega) (by omega)).trv.later hb;simpa only[e]using h5
  have HLX:=iH (fun V (hb:Below wb.heap.size wb V)=>hlx.1.later hb);have HLY:=iH (fun V (hb:Below wb.heap.size wb V)=>hly.1.later hb);have HW5:=HW;have HBN:=iH hbn;clear x1 x2 x3 x4 x5 x6 y1 y2 y3 y4 y5 y6 hlx hly hone hbn HXX HXY HYY HX1 HX2 HLV HRL HRM HAL HAM HS2 xs ys;go_upto_region 6 with(first
   |(refine wpList_plain rfl ?_;intro _ hK;refine rowsC_wp 26 28 _ _ rfl (by_:=80) (z:=.agg (trC 0 0 ⟨#[]⟩ (.slice none 0 0) (.slice none 0 0))) rfl HE0.out rfl (HC1.out _ HBN.out) ⟨rfl,HP.out.1⟩ (oneC HO1.out) Tryz.underlying26 trl_info3 rfl (by decide) (by have:=HP.out;have:=HNN.out;simp;omega) (by decide) ?_;intro v1 wc hr hg;refine hK _ _ ?_;have HV1:=iH hr;have HBC:Hid (Below wb.heap.size wb wc):=HBN.out.trans (HE0.out.below' hg (Nat.le_refl _) HN1.out);clear hr hg hK)
   |(refine wpList_plain rfl ?_;intro _ hK;refine rowsC_wp 26 28 _ _ rfl (by_:=80) (z:=.agg (trC 0 0 ⟨#[]⟩ (.slice none 0 0) (.slice none 0 0))) rfl HV1.out rfl (HC2.out _ HBC.out) ⟨rfl,HP.out.2.1⟩ (oneC HO2.out) Tryz.underlying26 trl_info3 rfl (by decide) (by have:=HP.out;have:=HNN.out;simp;omega) (by decide) ?_;intro v2 wd hr hg;refine hK _ _ ?_;have HV2:=iH hr;have HBD:Hid (Below wb.heap.size wb wd):=HBC.out.trans (HV1.out.below' hg (Nat.le_refl _) HBC.out.size);clear hr hg hK))
  have hbo:TrLs wd v2 (x++y):=trLs_rows HV2.out (by rw[List.nil_append,List.length_append,List.length_append];have:=HP.out;omega) (by rw[List.length_append];have:=HNN.out;omega) (fun j h h'=>HTB.out wd HBD.out j h h');have hwd:=tW HW.out HBD.out;have HS1:=iH (fun V (hb:Below wd.heap.size wd V)=>od_Sort x vx V ((HLX.out wd HBD.out).later hb|>.weak fun _ _=>trivial) HNN.out.1 HVA.out (HT1.out V (tW hwd hb)));have HS2:=iH (fun V (hb:Below wd.heap.size wd V)=>od_Sort y vy V ((HLY.out wd HBD.out).later hb|>.weak fun _ _=>trivial) HNN.out.2 HVB.out (HT1.out V (tW hwd hb)));have HMR:=iH (fun V va vb (hb:Below wd.heap.size wd V) (h1:VaLs (fun _=>True) V va (srtT x)) (h2:VaLs (fun _=>True) V vb (srtT y))=>od_Merge (srtT x) (srtT y) va vb V h1 h2 (by rw[srtT_len];have:=HNN.out;omega) (by rw[srtT_len];have:=HNN.out;omega) (HT1.out V (tW hwd hb)));have HRS:=iH (fun V (hb:Below wd.heap.size wd V)=>rf_Sort12 (x++y) v2 V (hbo.later hb) (fun z hz=>(List.mem_append.1 hz).elim (HVA.out z) (HVB.out z)) (by rw[List.length_append];have:=HNN.out;omega));have HSM:Hid (∀V va tb,Below wd.heap.size wd V->VaLs (fun _=>True) V va (mrg (srtT x) (srtT y))->TrLs V tb (srtT (x++y))->Calls Tryz.prog 24 #[va,tb] V fun e w'=>e=.returned (.bool true)/\Below V.heap.size V w'):=fun V va tb hb h1 h2=>lw_same _ _ va tb V h1 h2 (HT1.out V (tW hwd hb)) true ⟨fun _=>HEQ.out,fun _=>rfl⟩
  have HML:Hid ((srtT (x++y)).length<=200000):=by show _<=_;rw[srtT_len,List.length_append];have:=HNN.out;omega
  have HWD:=iH (tW HB1.out hwd);replace HW:Hid (Below wd.heap.size wd wd):=Below.refl _ _;clear hbo hwd HV1 HV2 HBC HBD HTB HLX HLY HC1 HC2 HO1 HO2 HE0 HN1 HW5 HBN HVA HVB HEQ HP;go_wp2_with (first
   |(go_at_call 23;(with_reducible refine(HS1.out _ HW.out).mono ?_);rintro r we ⟨p1,rfl,hp,_,hb⟩;have HP1:=iH (hp.vaLs.weak (S':=fun _=>True) fun _ _=>trivial);replace HW:=iH (tW HW.out hb);clear hb hp)
   |(go_at_call 23;(with_reducible refine(HS2.out _ HW.out).mono ?_);rintro r wf ⟨p2,rfl,hp,_,hb⟩;have HP2:=iH (hp.vaLs.weak (S':=fun _=>True) fun _ _=>trivial);have HP1b:=iH (HP1.out.later hb);replace HW:=iH (tW HW.out hb);clear hb hp)
   |(go_at_call 30;(with_reducible refine(HMR.out _ _ _ HW.out HP1b.out HP2.out).mono ?_);rintro r wg ⟨p3,rfl,hp,hb⟩;have HP3:=iH hp;replace HW:=iH (tW HW.out hb);clear hb hp)
   |(go_at_call 25;(with_reducible refine(HRS.out _ HW.out).mono ?_);rintro r wh ⟨p4,css,rfl,hr,ht,hb⟩;have HP4:=iH (rowT_ls hr ht hb HML.out);have HP3b:=iH (HP3.out.later hb);replace HW:=iH (tW HW.out hb);clear hb hr ht)
   |(go_at_call 24;(with_reducible refine(HSM.out _ _ _ HW.out HP3b.out HP4.out).mono ?_);rintro r V ⟨rfl,hb⟩;replace HW:=iH (tW HW.out hb);clear hb))
  have hb:=tW HWD.out HW.out;go_ret;exact⟨rfl,hb⟩
end Go.Proofs.YtengibnpebfblaaGreatDoor
