import Derived.Test.YtengibnpebfblaaGreatDoorB33
import Derived.Test.YtengibnpebfblaaGreatDoorB45
import Derived.Test.YtengibnpebfblaaGreatDoorB44
set_option maxRecDepth 1000000
set_option maxHeartbeats 8000000
set_option linter.unusedSimpArgs false
namespace Go.Proofs.YtengibnpebfblaaGreatDoor
open Go.RowKit
theorem conf_size12:(Tryz.prog.info? 24).map (·.size)=some 2:=by kernel_rfl
def valO (a:Tr):Tr:=if chkT a=0 then canT a else nullT
theorem lw_of (s:Nat) (bb:Int) (a:Tr) (v:Value) (w:World) (hs:s<18446744073709551616) (hv:TrV w a v) (hfew:FewT 2000 a) (htxt:TxtT 3000 a) (hnod:nodT a<=100000) (hT:Tab6 w):
  Calls Tryz.prog 11 #[.agg #[.int .u64 (s:Int),.int .i64 bb],v] w fun e w'=>∃y,e=.returned (.agg (celC y))/\VAt (fun g=>w.heap.size<=g) w' (valO a) y/\Below w.heap.size w w':=by
 obtain⟨ak,an,att,aa,al,ac,ad,am,ae,rfl⟩:=tr_shape hv;obtain⟨w1,hw1⟩:∃w1,((w.alloc (.cells #[.int .u64 (s:Int),.int .i64 bb] 24)).alloc (.cells (trC ak an att (.slice aa al ac) (.slice ad am ae)) 28)).alloc (.cells #[.int .i64 0,.int .i64 0,.string ⟨#[]⟩,.pointer none] 35)=w1:=⟨_,rfl⟩
 obtain⟨hb1,hx1,hx2,hx3,hs1⟩:=three_newV hw1;have HOF:Hid (∀W,Below w1.heap.size w1 W->Calls Tryz.prog 36 #[.agg #[.int .u64 (s:Int),.int .i64 bb],.agg (trC ak an att (.slice aa al ac) (.slice ad am ae))] W fun e w'=>∃y,e=.returned (.tuple #[.agg (celC y),.int .i64 (chkT a)])/\VAt (fun g=>w1.heap.size<=g) w' (valO a) y/\Below W.heap.size W w'):=fun W hb=>(va_Of a _ W s bb ((hv.later hb1).later hb) hfew htxt hnod hs ((hT.below hb1).below hb)).mono fun e w' h=>by
  obtain⟨y,h1,h2,h3⟩:=h;exact⟨y,h1,h2.weak fun g hg=>Nat.le_trans hb.size hg,h3⟩
 have HX1:=iH hx1;have HX2:=iH hx2;have HX3:=iH (fun W (hb:Below w1.heap.size w1 W)=>kW hb hx3);have HB1:=iH hb1;have HS1:=iH hs1;have HW:Hid (Below w1.heap.size w1 w1):=Below.refl _ _;clear hb1 hx1 hx2 hx3 hs1 hv hfew htxt hnod hT;go_enter Tryz.func11,Tryz.ntmps11;go_upto_region 1 with fail
 clear hw1;go_wp2_with (first
  |(refine ld_if rfl 24 _ rfl w.heap.size rfl 24 _ _ _ HX1.out Tryz.underlying24 rfl conf_size12 ?_)
  |(refine ld_if rfl 28 _ rfl (w.heap.size+1) rfl 28 _ _ _ HX2.out Tryz.underlying28 rfl tr_size12 ?_)
  |(go_at_call 36;(with_reducible refine(HOF.out _ HW.out).mono ?_);rintro r V ⟨y,rfl,hy,hb⟩;have HY:=iH hy;replace HW:=iH (tW HW.out hb);clear hb hy)
  |(refine st_agg rfl 35 _ _ rfl V.heap.size (celC y) rfl rfl 35 #[.int .i64 0,.int .i64 0,.string ⟨#[]⟩,.pointer none] (heap_alloc_last _ _) val_size rfl (celC_one y) ?_;intro w3 h3 k3;have hb3:Below V.heap.size V w3:=(Below.newly' _ _).trans (k3.below (Nat.le_refl _));have HY3:=iH (HY.out.later hb3);have H3:=iH h3;replace HW:=iH (tW HW.out hb3);clear hb3 h3 k3)
  |(refine ld_if rfl 35 _ rfl V.heap.size rfl 35 _ _ _ H3.out Tryz.underlying35 rfl val_size ?_)
  |(refine st_agg rfl 35 _ _ rfl (w.heap.size+2) (celC y) rfl rfl 35 #[.int .i64 0,.int .i64 0,.string ⟨#[]⟩,.pointer none] (HX3.out _ HW.out) val_size rfl (celC_one y) ?_;intro w5 h5 k5))
 have hfin:VAt (fun g=>w.heap.size<=g) w5 (valO a) y:=(HY3.out.kq (Kq.only k5 (by have:=HS1.out;omega))).weak fun g hg=>Nat.le_trans HB1.out.size hg
 have hb:=HB1.out.trans ((HW.out.mono HB1.out.size).trans (k5.below (by omega)));exact bodyPost_ret (results_cell_row rfl _ _ (w.heap.size+2) 35 _ (0,0) _ rfl h5 Tryz.underlying35 rfl val_size) rfl ⟨y,rfl,hfin,hb⟩
theorem small12 {a:Tr} (h:(smT a 0 120).2=true):FewT 2000 a/\TxtT 3000 a/\nodT a<=120:=by
 have h1:=sm_true a 0 120 h;exact⟨sm_few 2000 a 0 120 h (by decide),txt_more (by decide) a (short_txt a h1.2.2.1),by have:=h1.1;omega⟩
def okR (a:Tr):Bool:=(smT a 0 120).2&&chkT a==0
theorem okR_val {a:Tr} (h:okR a=true) (hr:RngT a):FewT 2000 a/\TxtT 3000 a/\nodT a<=120/\chkT a=0/\valO a=canT a/\ValB (canT a):=by
 unfold okR at h;have h1:=Bool.and_eq_true_iff.1 h;obtain⟨h2,h3,h4⟩:=small12 h1.1;have h5:chkT a=0:=by simpa using h1.2
 exact⟨h2,h3,h4,h5,if_pos h5,(one_can h5 hr (by omega) h3).2.2.2.2.2⟩
def TrLs (w:World) (v:Value) (l:List Tr):Prop:=∃(a:Option Addr) (c b o:Nat),v=.slice a l.length c/\l.length<=maxLen/\(0<l.length->a=some ⟨b,o,none⟩)/\∀j (h:j<l.length),∃cs:Array Value,cs.size=5/\TrV w l[j] (.agg cs)/\w.rangeAt b (o+j*5) cs.toList
theorem TrLs.later {w w':World} {v:Value} {l:List Tr} (h:TrLs w v l) (hb:Below w.heap.size w w'):TrLs w' v l:=by
 obtain⟨a,c,b,o,h1,h2,h3,h4⟩:=h;refine⟨a,c,b,o,h1,h2,h3,fun j hj=> ?_⟩;obtain⟨cs,q1,q2,q3⟩:=h4 j hj;exact⟨cs,q1,q2.later hb,rangeAt_later q3 hb⟩
theorem lw_right (w:World) (v:Value) (l:List Tr) (hv:TrLs w v l):Calls Tryz.prog 10 #[v] w fun e w'=>e=.returned (.bool (l.all okR&&decide (l.length<=12)))/\Below w.heap.size w w':=by
 obtain⟨ad,cap,b,oo,rfl,hmax,ha,hr⟩:=hv;obtain⟨N,hN⟩:∃N,N=l.length:=⟨_,rfl⟩
 rw[<-hN];have hn4:(N:Int)<=9223372036854775807:=by unfold maxLen at hmax;omega
 have HNL:=iH hN;have HA:=iH ha;have HR:=iH hr;clear hN ha hr hmax;go_enter Tryz.func10,Tryz.ntmps10;go_wp2_with fail
 go_loopw [7] (fun i W=>∃j:Nat,j<=N/\i=.int .i64 (j:Int)/\(∀q (h:q<l.length),q<j->okR l[q]=true)/\Below w.heap.size w W) (fun i _=>N-(intOf i).toNat)
 case atStart=>exact⟨0,Nat.zero_le _,rfl,fun q _ h=>absurd h (Nat.not_lt_zero _),Below.refl _ _⟩
 case round=>
  obtain⟨j,hj,rfl,hq,hw⟩:=hrel;have HW:=iH hw;have HQ:=iH hq;clear hw hq;by_cases hlt:j<N
  case neg=>
   obtain rfl:j=N:=by omega
   have HALL:Hid (l.all okR=true):=by
    show _=_;rw[List.all_eq_true];intro x hx;obtain⟨q,hq,rfl⟩:=List.getElem_of_mem hx;exact HQ.out q hq (by rw[HNL.out];exact hq)
   clear HQ;go_wp2_with fail
   have hd:decide ((j:Int)<=12)=decide (j<=12):=by rw[decide_eq_decide];omega
   go_ret;refine⟨?_,HW.out⟩;rw[HALL.out,Bool.true_and,<-hd];rfl
  have hlt':(j:Int)<(N:Int):=by omega
  have i0:(0:Int)<=(j:Int):=by omega
  have hjl:j<l.length:=by rw[<-HNL.out];exact hlt
  obtain rfl:=HA.out (by omega);obtain⟨cs,hcs,htv,hrg⟩:=HR.out j hjl;have HRG:=iH (rangeAt_later hrg HW.out);have htv':=htv.later HW.out;have hmem:∀q (h:q<l.length),okR l[q]=false->l.all okR=false:=fun q h hq=>by
   rw[Bool.eq_false_iff];intro hall;rw[List.all_eq_true]at hall;rw[hall _ (List.getElem_mem h)]at hq;cases hq
  have HMM:Hid (okR l[j]=false->l.all okR=false):=hmem j hjl;have HST:Hid (okR l[j]=true->∀q (h:q<l.length),q<j+1->okR l[q]=true):=fun h0 q h1 h2=>by
   rcases Nat.lt_or_ge q j with h3|h3
   ·exact HQ.out q h1 h3
   ·obtain rfl:q=j:=by omega
    exact h0
  obtain⟨x,hx⟩:∃x,x=l[j]:=⟨_,rfl⟩
  rw[<-hx]at htv' HMM HST;obtain⟨ak,an,att,aa,al,ac,ad,am,ae,hsh⟩:=tr_shape htv';obtain rfl:=Value.agg.inj hsh;have HTV:=iH htv';have HLT:=iH hlt;obtain⟨sm,hsm⟩:∃b,b=(smT x 0 120).2:=⟨_,rfl⟩
  have HSM:Hid (∀W,Below wr.heap.size wr W->Calls Tryz.prog 35 #[.agg (trC ak an att (.slice aa al ac) (.slice ad am ae)),.int .i64 120] W fun e w'=>e=.returned (.bool sm)/\Below W.heap.size W w'):=fun W hb=>by rw[hsm];exact rf_Small x _ 120 W (HTV.out.later hb) (by decide) (by decide)
  have HSE:=iH hsm;clear hx hjl hlt htv htv' hrg hsh hcs hmem HQ hsm;have HW0:Hid (Below wr.heap.size wr wr):=Below.refl _ _;cases sm with
  |false=>
   have HAL:Hid (l.all okR=false):=HMM.out (by unfold okR;rw[<-HSE.out];rfl);go_wp2_with (first
    |(refine ld_tr (by rfl) _ rfl b (oo+j*5) rfl (trC ak an att (.slice aa al ac) (.slice ad am ae)) HRG.out rfl ?_)
    |(refine st_agg rfl 28 _ _ rfl wr.heap.size (trC ak an att (.slice aa al ac) (.slice ad am ae)) rfl rfl 28 (trC 0 0 ⟨#[]⟩ (.slice none 0 0) (.slice none 0 0)) (heap_alloc_last _ _) tr_size12 rfl (by simp[Value.oneCell']) ?_;intro w8 h8 k8;have hb8:Below wr.heap.size wr w8:=(Below.newly' _ _).trans (k8.below (Nat.le_refl _));have H8:=iH h8;replace HW0:=iH hb8;clear hb8 h8 k8)
    |(refine ld_if rfl 28 _ rfl wr.heap.size rfl 28 _ _ _ H8.out Tryz.underlying28 rfl tr_size12 ?_)
    |(go_at_call 35;(with_reducible refine(HSM.out _ HW0.out).mono ?_);rintro r V ⟨rfl,hb⟩;replace HW0:=iH (tW HW0.out hb);clear hb))
   go_ret;refine⟨?_,tW HW.out HW0.out⟩;rw[HAL.out];rfl
  |true=>
   obtain⟨m1,m2,m3⟩:=small12 HSE.out.symm;obtain⟨ck,hck⟩:∃n,n=chkT x:=⟨_,rfl⟩
   have HCK:Hid (∀W,Below wr.heap.size wr W->Calls Tryz.prog 20 #[.agg (trC ak an att (.slice aa al ac) (.slice ad am ae))] W fun e w'=>e=.returned (.int .i64 ck)/\Below W.heap.size W w'):=fun W hb=>by rw[hck];exact rf_Check x _ W (HTV.out.later hb) m1 m2
   have HOK:Hid (okR x=(ck==0)):=by show _=_;unfold okR;rw[<-HSE.out,hck];rfl
   clear m1 m2 m3 hck;by_cases c0:ck=0
   case pos=>
    have hc0:(ck==0)=true:=beq_iff_eq.2 c0;have HGO:=iH (HST.out (HOK.out.trans hc0));clear c0;go_wp2_with (first
     |(refine ld_tr (by rfl) _ rfl b (oo+j*5) rfl (trC ak an att (.slice aa al ac) (.slice ad am ae)) HRG.out rfl ?_)
     |(refine st_agg rfl 28 _ _ rfl wr.heap.size (trC ak an att (.slice aa al ac) (.slice ad am ae)) rfl rfl 28 (trC 0 0 ⟨#[]⟩ (.slice none 0 0) (.slice none 0 0)) (heap_alloc_last _ _) tr_size12 rfl (by simp[Value.oneCell']) ?_;intro w8 h8 k8;have hb8:Below wr.heap.size wr w8:=(Below.newly' _ _).trans (k8.below (Nat.le_refl _));have H8:=iH h8;replace HW0:=iH hb8;clear hb8 h8 k8)
     |(refine ld_if rfl 28 _ rfl wr.heap.size rfl 28 _ _ _ H8.out Tryz.underlying28 rfl tr_size12 ?_)
     |(go_at_call 35;(with_reducible refine(HSM.out _ HW0.out).mono ?_);rintro r V ⟨rfl,hb⟩;have H9:=iH (kW hb H8.out);replace HW0:=iH (tW HW0.out hb);clear hb)
     |(refine ld_if (by rfl) 28 _ rfl wr.heap.size rfl 28 _ _ _ H9.out Tryz.underlying28 rfl tr_size12 ?_)
     |(go_at_call 20;(with_reducible refine(HCK.out _ HW0.out).mono ?_);rintro r V2 ⟨rfl,hb⟩;replace HW0:=iH (tW HW0.out hb);clear hb))
    go_roundw
    case rel=>exact⟨j+1,by have:=HLT.out;omega,by go_num,HGO.out,tW HW.out HW0.out⟩
    case measure=>have:=HLT.out;simp[intOf];omega
   have hc0:(ck==0)=false:=beq_eq_false_iff_ne.2 c0;have HAL:Hid (l.all okR=false):=HMM.out (HOK.out.trans hc0);clear c0;go_wp2_with (first
    |(refine ld_tr (by rfl) _ rfl b (oo+j*5) rfl (trC ak an att (.slice aa al ac) (.slice ad am ae)) HRG.out rfl ?_)
    |(refine st_agg rfl 28 _ _ rfl wr.heap.size (trC ak an att (.slice aa al ac) (.slice ad am ae)) rfl rfl 28 (trC 0 0 ⟨#[]⟩ (.slice none 0 0) (.slice none 0 0)) (heap_alloc_last _ _) tr_size12 rfl (by simp[Value.oneCell']) ?_;intro w8 h8 k8;have hb8:Below wr.heap.size wr w8:=(Below.newly' _ _).trans (k8.below (Nat.le_refl _));have H8:=iH h8;replace HW0:=iH hb8;clear hb8 h8 k8)
    |(refine ld_if rfl 28 _ rfl wr.heap.size rfl 28 _ _ _ H8.out Tryz.underlying28 rfl tr_size12 ?_)
    |(go_at_call 35;(with_reducible refine(HSM.out _ HW0.out).mono ?_);rintro r V ⟨rfl,hb⟩;have H9:=iH (kW hb H8.out);replace HW0:=iH (tW HW0.out hb);clear hb)
    |(refine ld_if (by rfl) 28 _ rfl wr.heap.size rfl 28 _ _ _ H9.out Tryz.underlying28 rfl tr_size12 ?_)
    |(go_at_call 20;(with_reducible refine(HCK.out _ HW0.out).mono ?_);rintro r V2 ⟨rfl,hb⟩;replace HW0:=iH (tW HW0.out hb);clear hb))
   go_ret;refine⟨?_,tW HW.out HW0.out⟩;rw[HAL.out];rfl
end Go.Proofs.YtengibnpebfblaaGreatDoor
