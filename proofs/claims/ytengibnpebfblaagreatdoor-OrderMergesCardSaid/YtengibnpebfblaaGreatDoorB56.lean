import Derived.Test.YtengibnpebfblaaGreatDoorB46
import Derived.Test.YtengibnpebfblaaGreatDoorB62
set_option maxRecDepth 1000000
set_option maxHeartbeats 8000000
set_option linter.unusedSimpArgs false
namespace Go.Proofs.YtengibnpebfblaaGreatDoor
open Go.RowKit
theorem lw_same (l m:List Tr) (v u:Value) (w:World) (hv:VaLs (fun _=>True) w v l) (hu:TrLs w u m) (hT:Tab6 w) (R:Bool) (hR:R=true↔l=m):Calls Tryz.prog 24 #[v,u] w fun e w'=>e=.returned (.bool R)/\Below w.heap.size w w':=by
 obtain⟨a,cap,b,oo,rfl,hmax,ha,hr⟩:=hv;obtain⟨a',cap',b',oo',rfl,hmax',ha',hr'⟩:=hu;by_cases hlen:l.length=m.length
 case neg=>
  have c5:¬(l.length:Int)=(m.length:Int):=by omega
  obtain rfl:R=false:=Bool.eq_false_iff.2 fun h=>hlen (by rw[hR.1 h])
  clear hR hlen ha hr ha' hr' hT hmax hmax';go_enter Tryz.func24,Tryz.ntmps24;go_wp2_with fail
  go_ret;exact⟨rfl,Below.refl _ _⟩
 obtain⟨N,hN⟩:∃N,N=l.length:=⟨_,rfl⟩
 rw[<-hN]at hlen;rw[<-hN,<-hlen];have hn4:(N:Int)<=9223372036854775807:=by unfold maxLen at hmax;omega
 have HNL:=iH hN;have HRR:=iH hR;have HNM:=iH hlen;have HA:=iH ha;have HA':=iH ha';have HR:=iH hr;have HR':=iH hr';have HT0:=iH (fun W (hb:Below w.heap.size w W)=>hT.below hb);clear hR hN hlen ha hr ha' hr' hmax hmax' hT;go_enter Tryz.func24,Tryz.ntmps24;go_wp2_with fail
 go_loopw [13] (fun i W=>∃j:Nat,j<=N/\i=.int .i64 (j:Int)/\(∀q (h:q<l.length) (h':q<m.length),q<j->l[q]=m[q])/\Below w.heap.size w W) (fun i _=>N-(intOf i).toNat)
 case atStart=>exact⟨0,Nat.zero_le _,rfl,fun q _ _ h=>absurd h (Nat.not_lt_zero _),Below.refl _ _⟩
 case round=>
  obtain⟨j,hj,rfl,hq,hw⟩:=hrel;have HWR:=iH hw;have HQ:=iH hq;clear hw hq;by_cases hlt:j<N
  case neg=>
   obtain rfl:j=N:=by omega
   obtain rfl:R=true:=HRR.out.2 (List.ext_getElem (by rw[<-HNL.out,<-HNM.out]) (fun q h1 h2=>HQ.out q h1 h2 (by rw[HNL.out];exact h1)));clear HQ;go_wp2_with fail
   go_ret;exact⟨rfl,HWR.out⟩
  have hlt':(j:Int)<(N:Int):=by omega
  have i0:(0:Int)<=(j:Int):=by omega
  have hjl:j<l.length:=by rw[<-HNL.out];exact hlt
  have hjm:j<m.length:=by rw[<-HNM.out];exact hlt
  obtain rfl:=HA.out (by omega);obtain rfl:=HA'.out (by omega);obtain⟨x,hvb,hva,hrg⟩:=HR.out j hjl;obtain⟨cs,hcs,htv,hrg'⟩:=HR'.out j hjm;obtain⟨yk,yn,yt,ya,yl,yc,yd,ym,ye,hsh⟩:=tr_shape htv;obtain rfl:=Value.agg.inj hsh;have hva':=hva.later HWR.out;have htv':=htv.later HWR.out;have HR1:=iH (rangeAt_later hrg HWR.out);have HR2:=iH (rangeAt_later hrg' HWR.out);have HTW:=iH (HT0.out _ HWR.out);obtain⟨z,hz⟩:∃z,z=sameT l[j] m[j]:=⟨_,rfl⟩
  have HZI:Hid (z=true↔l[j]=m[j]):=by
   show _↔_;rw[hz];exact same_iff _ _
  have HTA:Hid (∀W,Below wr.heap.size wr W->Calls Tryz.prog 19 #[.agg (celC x)] W fun r w'=>∃c,r=.returned (.agg c)/\TrV w' l[j] (.agg c)/\Below W.heap.size W w'):=fun W hb=>
   (va_Tree _ W x hvb (hva'.later hb) (HTW.out.below hb)).mono fun r w' h=>by
    obtain⟨c,h1,_,h2,h3⟩:=h;exact⟨c,h1,h2.trv,h3⟩
  have HSA:Hid (∀(c:Array Value) (W:World),TrV W l[j] (.agg c)->Below wr.heap.size wr W->Calls Tryz.prog 18 #[.agg c,.agg (trC yk yn yt (.slice ya yl yc) (.slice yd ym ye))] W fun e w'=>e=.returned (.bool z)/\Below W.heap.size W w'):=fun c W h1 hb=>by rw[hz];exact rf_Same _ _ _ _ W h1 (htv'.later hb)
  have HKS:Hid (∀V,Below wr.heap.size wr V->V.rangeAt b (oo+j*4) (celC x).toList/\V.rangeAt b' (oo'+j*5) (trC yk yn yt (.slice ya yl yc) (.slice yd ym ye)).toList):=fun V hb=>⟨rangeAt_later HR1.out hb,rangeAt_later HR2.out hb⟩
  have HW:Hid (Below wr.heap.size wr wr.drew):=drawn_below wr;have HLT:=iH hlt;clear hlt hva hva' htv htv' hrg hrg' hsh hcs hz hvb;cases z with
  |true=>
   go_upto_region 6 with fail
   refine wp_region_T (S:=(fun V=>V.rangeAt b (oo+j*4) (celC x).toList/\V.rangeAt b' (oo'+j*5) (trC yk yn yt (.slice ya yl yc) (.slice yd ym ye)).toList)) [] (by kernel_rfl) (by exact HKS.out _ HW.out) (fun hHeld=> ?_);refine tkL 0 16 (h:=?_);refine tkL 1 17 (h:=?_);(try simp only[pq]);refine tkL 2 18 (h:=?_);refine tyL 3 19 (hy:=yieldsIf_arr (by rfl) 35 _ rfl b (oo+j*4) rfl (celC x) _ (fun w hw=>hw.1) Tryz.underlying35 rfl (by exact val_size)) (h:=?_);(try simp only[pq]);refine tkL 5 21 (h:=?_);refine tkL 6 22 (h:=?_);(try simp only[pq]);refine tkL 7 23 (h:=?_);refine tyL 8 24 (hy:=yieldsIf_arr (by rfl) 28 _ rfl b' (oo'+j*5) rfl (trC yk yn yt (.slice ya yl yc) (.slice yd ym ye)) _ (fun w hw=>hw.2) Tryz.underlying28 rfl (by exact tr_size12)) (h:=?_);(try simp only[pq]);refine tkO 4 (some 20) (h:=fun K hK=> ?_);go_simp;go_at_call 19;(with_reducible refine(HTA.out _ (by exact HW.out)).mono ?_);rintro r wt1 ⟨c,rfl,hc,hb⟩;have HC:=iH hc;replace HW:=iH (tW HW.out hb);clear hb hc;dsimp only;refine hK.out _ _ (by exact HKS.out _ HW.out) (fun hHeld=> ?_);clear hK K;(try simp only[pq]);refine tkO 9 (some 25) (h:=fun K hK=> ?_);go_simp;go_at_call 18;(with_reducible refine(HSA.out _ _ HC.out (by exact HW.out)).mono ?_);rintro r wt2 ⟨rfl,hb⟩;replace HW:=iH (tW HW.out hb);clear hb;dsimp only;refine hK.out _ _ (by exact HKS.out _ HW.out) (fun hHeld=> ?_);clear hK K;(try simp only[pq]);refine tkL 10 26 (h:=?_);(try simp only[pq]);refine wpAnyT_done (by kernel_rfl) ?_ _;clear hHeld;go_wp2_with fail
   go_roundw
   case rel=>
    refine⟨j+1,by have:=HLT.out;omega,by go_num,fun q h1 h2 h4=> ?_,tW HWR.out HW.out⟩;rcases Nat.lt_or_ge q j with h3|h3
    ·exact HQ.out q h1 h2 h3
    ·obtain rfl:q=j:=by omega
     exact HZI.out.1 rfl
   case measure=>have:=HLT.out;simp[intOf];omega
  |false=>
   obtain rfl:R=false:=Bool.eq_false_iff.2 fun h=>by
    have h1:=HRR.out.1 h;subst h1;exact Bool.noConfusion (HZI.out.2 rfl)
   go_upto_region 6 with fail
   refine wp_region_T (S:=(fun V=>V.rangeAt b (oo+j*4) (celC x).toList/\V.rangeAt b' (oo'+j*5) (trC yk yn yt (.slice ya yl yc) (.slice yd ym ye)).toList)) [] (by kernel_rfl) (by exact HKS.out _ HW.out) (fun hHeld=> ?_);refine tkL 0 16 (h:=?_);refine tkL 1 17 (h:=?_);(try simp only[pq]);refine tkL 2 18 (h:=?_);refine tyL 3 19 (hy:=yieldsIf_arr (by rfl) 35 _ rfl b (oo+j*4) rfl (celC x) _ (fun w hw=>hw.1) Tryz.underlying35 rfl (by exact val_size)) (h:=?_);(try simp only[pq]);refine tkL 5 21 (h:=?_);refine tkL 6 22 (h:=?_);(try simp only[pq]);refine tkL 7 23 (h:=?_);refine tyL 8 24 (hy:=yieldsIf_arr (by rfl) 28 _ rfl b' (oo'+j*5) rfl (trC yk yn yt (.slice ya yl yc) (.slice yd ym ye)) _ (fun w hw=>hw.2) Tryz.underlying28 rfl (by exact tr_size12)) (h:=?_);(try simp only[pq]);refine tkO 4 (some 20) (h:=fun K hK=> ?_);go_simp;go_at_call 19;(with_reducible refine(HTA.out _ (by exact HW.out)).mono ?_);rintro r wt1 ⟨c,rfl,hc,hb⟩;have HC:=iH hc;replace HW:=iH (tW HW.out hb);clear hb hc;dsimp only;refine hK.out _ _ (by exact HKS.out _ HW.out) (fun hHeld=> ?_);clear hK K;(try simp only[pq]);refine tkO 9 (some 25) (h:=fun K hK=> ?_);go_simp;go_at_call 18;(with_reducible refine(HSA.out _ _ HC.out (by exact HW.out)).mono ?_);rintro r wt2 ⟨rfl,hb⟩;replace HW:=iH (tW HW.out hb);clear hb;dsimp only;refine hK.out _ _ (by exact HKS.out _ HW.out) (fun hHeld=> ?_);clear hK K;(try simp only[pq]);refine tkL 10 26 (h:=?_);(try simp only[pq]);refine wpAnyT_done (by kernel_rfl) ?_ _;clear hHeld;go_wp2_with fail
   go_ret;exact⟨rfl,tW HWR.out HW.out⟩
def RowT (W:World) (ys:List Tr) (css:List (Array Value)):Prop:=ys.length=css.length/\∀k (h:k<ys.length) (h':k<css.length),TrV W ys[k] (.agg css[k])
theorem RowT.later {W W':World} {ys:List Tr} {css:List (Array Value)} (h:RowT W ys css) (hb:Below W.heap.size W W'):RowT W' ys css:=⟨h.1,fun k h1 h2=>(h.2 k h1 h2).later hb⟩
theorem RowT.put {W:World} {ys:List Tr} {css:List (Array Value)} (h:RowT W ys css) {x:Tr} {c:Array Value} (hx:TrV W x (.agg c)) (p:Nat):RowT W (putN p ys x) (((([]++css.take p)++[c])++css.drop p)):=by
 rw[List.nil_append];have h1:putN p ys x=(ys.take p++[x])++ys.drop p:=by simp[putN]
 rw[h1];have app:∀{a b:List Tr} {d e:List (Array Value)},RowT W a d->RowT W b e->RowT W (a++b) (d++e):=fun {a b d e} h1 h2=>⟨by rw[List.length_append,List.length_append,h1.1,h2.1],fun k hk hk'=>by
  rcases Nat.lt_or_ge k a.length with hl|hl
  ·rw[List.getElem_append_left hl,List.getElem_append_left (by rw[<-h1.1];exact hl)]
   exact h1.2 k hl _
  ·rw[List.getElem_append_right hl,List.getElem_append_right (by rw[<-h1.1];exact hl)]
   have he:k-d.length=k-a.length:=by rw[h1.1]
   have:=h2.2 (k-a.length) (by have e2:=hk;rw[List.length_append]at e2;omega) (by have e1:=h1.1;have e2:=hk';rw[List.length_append]at e2;omega);simp only[he];exact this⟩
 refine app (app ⟨by rw[List.length_take,List.length_take,h.1],fun k h1 h2=> ?_⟩ ⟨rfl,fun k h1 h2=> ?_⟩) ⟨by rw[List.length_drop,List.length_drop,h.1],fun k h1 h2=> ?_⟩
 ·simp only[List.getElem_take]
  exact h.2 k (by rw[List.length_take]at h1;omega) (by rw[List.length_take]at h2;omega)
 ·obtain rfl:k=0:=by simpa using h1
  exact hx
 ·simp only[List.getElem_drop]
  exact h.2 _ (by rw[List.length_drop]at h1;omega) (by rw[List.length_drop]at h2;omega)
theorem flat_row (s:Nat) (cs:List (Array Value)) (k i:Nat) (u:Value) (hs:∀c∈cs,c.size=s) (h:k<cs.length) (hu:cs[k].toList[i]? =some u):(cs.flatMap Array.toList)[k*s+i]? =some u:=by
 have hi:=(List.getElem?_eq_some_iff.1 hu).1;rw[Array.length_toList,hs _ (List.getElem_mem h)]at hi;rw[flat_get s cs k i _ hs (List.getElem?_eq_getElem h) hi,<-Array.getElem?_toList];exact hu
theorem insP_lt {t:Tr}:∀{P:List Tr} {q:Nat} (h:q<P.length),q<insP t P->ordT P[q] t<=0
 |[],_,h,_=>absurd h (Nat.not_lt_zero _)
 |x::r,q,h,hq=>by
  unfold insP at hq;rw[List.takeWhile_cons]at hq;by_cases h0:ordT x t<=0
  ·rw[if_pos (by simpa using h0),List.length_cons]at hq
   cases q with
   |zero=>exact h0
   |succ q=>exact insP_lt (P:=r) (Nat.lt_of_succ_lt_succ h) (Nat.lt_of_succ_lt_succ hq)
  ·rw[if_neg (by simpa using h0)]at hq
   exact absurd hq (Nat.not_lt_zero _)
theorem rf_Sort12 (l:List Tr) (v:Value) (w:World) (hv:TrLs w v l) (hl:∀x∈l,ValB x) (hlen:l.length<=20000):Calls Tryz.prog 25 #[v] w fun e w'=>∃v' css,e=.returned v'/\RowsW w.heap.size 28 5 v' css w'/\RowT w (srtT l) css/\Below w.heap.size w w':=by
 obtain⟨add,cap,b,oo,rfl,hmax,ha,hr⟩:=hv;obtain⟨N,hN⟩:∃N,N=l.length:=⟨_,rfl⟩
 rw[<-hN];have hn4:(N:Int)<=20000:=by omega
 have HNL:Hid (N=l.length/\N<=20000):=⟨hN,by omega⟩
 have HA:=iH ha;have HR:=iH hr;have HLB:=iH hl;have HS0:Hid (RowsW w.heap.size 28 5 (.slice (some ⟨w.heap.size,0,none⟩) 0 0) [] (w.alloc (.cells #[] 28))):=rowsW_zero (Nat.le_refl _) (by simp) (heap_alloc_last _ _);have HB0':Hid (Below w.heap.size w (w.alloc (.cells #[] 28))):=Below.newly' w _;clear hN hr ha hl hmax hlen;go_enter Tryz.func25,Tryz.ntmps25;go_wp2_with fail
 go_loopw [3,11] (fun a3 i W=>∃(j:Nat) (iv:Value) (css:List (Array Value)),j<=N/\i=.int .i64 (j:Int)/\iv=a3/\Hid (RowsW w.heap.size 28 5 iv css W)/\Hid (RowT w (srtT (l.take j)) css)/\Hid (Below w.heap.size w W)) (fun _ i _=>N-(intOf i).toNat)
 case atStart=>exact⟨0,_,[],Nat.zero_le _,rfl,rfl,HS0.out,⟨rfl,fun k h _=>absurd h (Nat.not_lt_zero _)⟩,HB0'.out⟩
 case round=>
  clear HS0 HB0'
  rename World=>wo
  obtain⟨j,iv,css,hj,rfl,rfl,HIV,HRT,HBR⟩:=hrel;by_cases hlt:j<N
  case neg=>
   obtain rfl:j=N:=by omega
   have hfin:RowT w (srtT l) css:=by
    have h:=HRT.out;rw[HNL.out.1,List.take_length]at h;exact h
   have HFIN:=iH hfin;clear hfin;go_wp2_with fail
   go_ret;exact⟨_,css,rfl,HIV.out,HFIN.out,HBR.out⟩
  have hlt':(j:Int)<(N:Int):=by omega
  have i0:(0:Int)<=(j:Int):=by omega
  have hjl:j<l.length:=by rw[<-HNL.out.1];exact hlt
  obtain rfl:=HA.out (by omega);obtain⟨cs,hcs,htv,hrg⟩:=HR.out j hjl;have HRG:=iH (rangeAt_later hrg HBR.out);have htv':=htv.later HBR.out;obtain⟨x,hx⟩:∃x,x=l[j]:=⟨_,rfl⟩
  have hxb:ValB x:=by rw[hx];exact HLB.out _ (List.getElem_mem hjl)
  have hnext:srtT (l.take (j+1))=putN (insP x (srtT (l.take j))) (srtT (l.take j)) x:=by rw[List.take_succ_eq_append_getElem hjl,srtT_next,hx]
  rw[<-hx]at htv' htv;obtain⟨xk,xn,xt,xa,xl,xc,xd,xm,xe,hsh⟩:=tr_shape htv';obtain rfl:=Value.agg.inj hsh;obtain⟨ys,hys⟩:∃ys,ys=srtT (l.take j):=⟨_,rfl⟩
  have hyl:ys.length=j:=by rw[hys,srtT_len,List.length_take];omega
  have hyb:∀y∈ys,ValB y:=fun y hy=>HLB.out y (List.mem_of_mem_take ((srtT_perm _).mem_iff.1 (by rw[<-hys];exact hy)))
  have hrt:=HRT.out;rw[<-hys]at hnext hrt;obtain⟨p,hp⟩:∃p,p=insP x ys:=⟨_,rfl⟩
  rw[<-hp]at hnext;have hcl:css.length=j:=by rw[<-hrt.1,hyl]
  have hpj:p<=j:=by rw[hp,<-hyl];exact insP_le _ _
  have hc5:∀c∈css,c.size=5:=HIV.out.2.2
  have hc1:∀c∈css,c.all (·.oneCell')=true:=fun c hc=>by
   obtain⟨i,hi',rfl⟩:=List.mem_iff_getElem.1 hc;obtain⟨kk,nn,tt,aa,ll,cc,dd,mm,ee,e⟩:=(hrt.2 i (by omega) hi').cells;rw[e];simp[Value.oneCell']
  have hck:=lsT_cut HIV.out.own.lsT;rw[hcl]at hck;obtain⟨a2,c2,hi2,hi2r⟩:=cut_h 26 (P:=Tryz.prog) (by kernel_rfl) (fun w=>by kernel_rfl) hck hpj;obtain⟨a3,c3,hi3,hi3r⟩:=cut_l 26 (P:=Tryz.prog) (by kernel_rfl) (fun w=>by kernel_rfl) hck hpj;rw[flat_take' 5 css p hc5]at hi2;rw[flat_drop' 5 css p hc5]at hi3;obtain⟨ia,ic,rfl,_⟩:=hck.shape;have hcell:∀k (_:k<j) (hk:k<css.length),∃g o,ia=some ⟨g,o,none⟩/\∀V,Below wo.heap.size wo V->V.rangeAt g (o+k*5) css[k].toList:=fun k hk hk'=>by
   obtain⟨g,o,c,e,_,_,_,h⟩:=hck.pos (by omega);refine⟨g,o,?_,fun V hb=>rangeAt_later (fun i u hu=> ?_) hb⟩
   ·injection e with e1 e2 e3
   ·have h2:=h (k*5+i) u (flat_row 5 css k i u hc5 hk' hu)
    rw[<-Nat.add_assoc]at h2;exact h2
  have HCEL:=iH hcell;have HCK:Hid (∀V,Below wo.heap.size wo V->CutAt (fun _=>True) V 5 (.slice a2 p c2) ((css.take p).flatMap Array.toList) p):=fun V hb=>(hi2.later hb).weak fun _ _=>trivial
  have HCK2:Hid (∀V,Below wo.heap.size wo V->CutAt (fun _=>True) V 5 (.slice a3 (j-p) c3) ((css.drop p).flatMap Array.toList) (j-p)):=fun V hb=>(hi3.later hb).weak fun _ _=>trivial
  have HP1:Hid (p=(css.take p).length/\∀c∈css.take p,c.size=5):=⟨by rw[List.length_take];omega,fun c hc=>hc5 c (List.mem_of_mem_take hc)⟩
  have HP2:Hid (j-p=(css.drop p).length/\∀c∈css.drop p,c.size=5):=⟨by rw[List.length_drop];omega,fun c hc=>hc5 c (List.mem_of_mem_drop hc)⟩
  have HO1:Hid (∀c∈css.take p,c.all (·.oneCell')=true):=fun c hc=>hc1 c (List.mem_of_mem_take hc)
  have HO2:Hid (∀c∈css.drop p,c.all (·.oneCell')=true):=fun c hc=>hc1 c (List.mem_of_mem_drop hc)
  have HPN:Hid (p<=j/\j=css.length/\j<=20000):=⟨hpj,hcl.symm,by have:=HNL.out.2;omega⟩
  have HK2:=iH hi2r;have HK3:=iH hi3r;have HFIN:Hid (∀(v3:Value) (W:World),RowsW wo.heap.size 28 5 v3 ((([]++css.take p)++[(trC xk xn xt (.slice xa xl xc) (.slice xd xm xe))])++css.drop p) W->Below wo.heap.size wo W->RowsW w.heap.size 28 5 v3 ((([]++css.take p)++[(trC xk xn xt (.slice xa xl xc) (.slice xd xm xe))])++css.drop p) W/\RowT w (srtT (l.take (j+1))) ((([]++css.take p)++[(trC xk xn xt (.slice xa xl xc) (.slice xd xm xe))])++css.drop p)/\Below w.heap.size w W):=fun v3 W h hb=>⟨h.low HBR.out.size,by rw[hnext];exact hrt.put htv p,tW HBR.out hb⟩
  have HPP:Hid (p=insP x ys):=hp;have HYL:Hid (ys.length=j):=hyl;have HYB:=iH hyb;have HXB:=iH hxb;have HYT:=iH hrt;have HXT:=iH htv';have hltN:=hlt;clear hi2 hi3 hi2r hi3r hck hcell hc1 hc5 hcl hrt hpj hp hnext hyb hyl hys hx hxb htv htv' hrg hsh hcs HIV HRT hjl;go_wp2_with (first
   |(refine ld_tr (by rfl) _ rfl b (oo+j*5) rfl (trC xk xn xt (.slice xa xl xc) (.slice xd xm xe)) HRG.out rfl ?_)
   |(refine st_agg rfl 28 _ _ rfl wo.heap.size (trC xk xn xt (.slice xa xl xc) (.slice xd xm xe)) rfl rfl 28 (trC 0 0 ⟨#[]⟩ (.slice none 0 0) (.slice none 0 0)) (heap_alloc_last _ _) tr_size12 rfl (by simp[Value.oneCell']) ?_;intro w8 h8 k8;have hb8:Below wo.heap.size wo w8:=(Below.newly' _ _).trans (k8.below (Nat.le_refl _));have HX8:=iH h8;have HB8:=iH hb8;clear hb8 h8 k8))
  have HXK:Hid (∀V,Below w8.heap.size w8 V->V.heap[wo.heap.size]? =some (.cells (trC xk xn xt (.slice xa xl xc) (.slice xd xm xe)) 28 (0,0))):=fun V hb=>kW hb HX8.out
  have HCKb:Hid (∀V,Below w8.heap.size w8 V->CutAt (fun _=>True) V 5 (.slice a2 p c2) ((css.take p).flatMap Array.toList) p):=fun V hb=>HCK.out V (tW HB8.out hb)
  have HCK2b:Hid (∀V,Below w8.heap.size w8 V->CutAt (fun _=>True) V 5 (.slice a3 (j-p) c3) ((css.drop p).flatMap Array.toList) (j-p)):=fun V hb=>HCK2.out V (tW HB8.out hb)
  have HFINb:Hid (∀(v3:Value) (W:World),RowsW w8.heap.size 28 5 v3 ((([]++css.take p)++[(trC xk xn xt (.slice xa xl xc) (.slice xd xm xe))])++css.drop p) W->Below w8.heap.size w8 W->RowsW w.heap.size 28 5 v3 ((([]++css.take p)++[(trC xk xn xt (.slice xa xl xc) (.slice xd xm xe))])++css.drop p) W/\RowT w (srtT (l.take (j+1))) ((([]++css.take p)++[(trC xk xn xt (.slice xa xl xc) (.slice xd xm xe))])++css.drop p)/\Below w.heap.size w W):=fun v3 W h hb=>HFIN.out v3 W (h.low HB8.out.size) (tW HB8.out hb)
  clear HCK HCK2 HFIN;go_loopw [6] (fun a6 W=>∃k:Nat,k<=p/\a6=.int .i64 (k:Int)/\Hid (Below w8.heap.size w8 W)) (fun a6 _=>p+1-(intOf a6).toNat)
  case atStart=>exact⟨0,Nat.zero_le _,rfl,Below.refl _ _⟩
  case round=>
   obtain⟨k,hk,rfl,HV⟩:=hrel;have HW:Hid (Below wr.heap.size wr wr.drew):=drawn_below wr;by_cases hkM:k<j
   case neg=>
    obtain rfl:p=k:=by have:=HPN.out.1;omega
    obtain rfl:j=p:=by have:=HPN.out.1;omega
    rw[Nat.sub_self j]at HCK2b HP2 HK3;have HKS:Hid (∀V,Below wr.heap.size wr V->V.heap[wo.heap.size]? =some (.cells (trC xk xn xt (.slice xa xl xc) (.slice xd xm xe)) 28 (0,0))):=fun V hb=>HXK.out V (tW HV.out hb)
    go_upto_region 6 with fail
    refine wp_region_T (S:=(fun V=>V.heap[wo.heap.size]? =some (.cells (trC xk xn xt (.slice xa xl xc) (.slice xd xm xe)) 28 (0,0)))) [] (by kernel_rfl) (by exact HKS.out _ HW.out) (fun hHeld=> ?_);refine tkL 0 15 (h:=?_);refine tkL 1 16 (h:=?_);(try simp only[pq]);refine tkL 2 17 (h:=?_);refine tkL 3 18 (h:=?_);(try simp only[pq]);refine tkL 4 19 (h:=?_);(try simp only[pq]);refine wpAnyT_takeL (i:=5) (oi:=⟨some 20,_,_,_,_,_⟩) (v:=undef) rfl (by kernel_rfl) (by kernel_rfl) (by kernel_rfl) (by kernel_rfl) (fun _ _ _ h=>h) (Or.inr ⟨by rfl,rfl⟩) (by assumption) ?_;(try simp only[pq]);refine wpAnyT_takeL (i:=6) (oi:=⟨some 21,_,_,_,_,_⟩) (v:=undef) rfl (by kernel_rfl) (by kernel_rfl) (by kernel_rfl) (by kernel_rfl) (fun _ _ _ h=>h) (Or.inr ⟨by rfl,rfl⟩) (by assumption) ?_;(try simp only[pq]);refine wpAnyT_takeL (i:=7) (oi:=⟨some 22,_,_,_,_,_⟩) (v:=undef) rfl (by kernel_rfl) (by kernel_rfl) (by kernel_rfl) (by kernel_rfl) (fun _ _ _ h=>h) (Or.inr ⟨by rfl,rfl⟩) (by assumption) ?_;(try simp only[pq]);refine wpAnyT_takeL (i:=8) (oi:=⟨some 23,_,_,_,_,_⟩) (v:=undef) rfl (by kernel_rfl) (by kernel_rfl) (by kernel_rfl) (by kernel_rfl) (fun _ _ _ h=>h) (Or.inr ⟨by rfl,rfl⟩) (by assumption) ?_;(try simp only[pq]);refine wpAnyT_takeL (i:=9) (oi:=⟨some 24,_,_,_,_,_⟩) (v:=undef) rfl (by kernel_rfl) (by kernel_rfl) (by kernel_rfl) (by kernel_rfl) (fun _ _ _ h=>h) (Or.inr ⟨by rfl,rfl⟩) (by assumption) ?_;(try simp only[pq]);refine wpAnyT_takeL (i:=10) (oi:=⟨some 25,_,_,_,_,_⟩) (v:=undef) rfl (by kernel_rfl) (by kernel_rfl) (by kernel_rfl) (by kernel_rfl) (fun _ _ _ h=>h) (Or.inr ⟨by rfl,rfl⟩) (by assumption) ?_;(try simp only[pq]);refine wpAnyT_takeL (i:=11) (oi:=⟨some 26,_,_,_,_,_⟩) (v:=undef) rfl (by kernel_rfl) (by kernel_rfl) (by kernel_rfl) (by kernel_rfl) (fun _ _ _ h=>h) (Or.inr ⟨by rfl,rfl⟩) (by assumption) ?_;(try simp only[pq]);refine tkL 12 27 (h:=?_);(try simp only[pq]);refine wpAnyT_done (by kernel_rfl) ?_ _;clear hHeld
    have HBW:Hid (Below w8.heap.size w8 wr.drew):=tW HV.out HW.out;have HE0:Hid (RowsW w8.heap.size 28 5 (.slice (some ⟨wr.drew.heap.size,0,none⟩) 0 0) [] (wr.drew.alloc (.cells #[] 28))):=rowsW_zero HBW.out.size (Nat.le_trans HBW.out.size (Below.newly' _ _).size) (heap_alloc_last _ _);have HB0:Hid (Below w8.heap.size w8 (wr.drew.alloc (.cells #[] 28))):=HBW.out.trans ((Below.newly' wr.drew (.cells #[] 28)).mono HBW.out.size);have hk2:=HK2.out;go_upto_region 9 with(refine wpList_plain rfl ?_;intro _ hK;refine rowsC_wp 26 28 _ _ rfl (by_:=80) (z:=.agg (trC 0 0 ⟨#[]⟩ (.slice none 0 0) (.slice none 0 0))) rfl HE0.out rfl (HCKb.out _ HB0.out) HP1.out (oneC HO1.out) Tryz.underlying26 trl_info3 rfl (by decide) (by have:=HPN.out;simp;omega) (by decide) ?_;intro v1 wa hr hg;refine hK _ _ ?_;have Hv1:=iH hr;have HBv1:Hid (Below w8.heap.size w8 wa):=HB0.out.trans (HE0.out.below' hg (Nat.le_refl _) HB0.out.size);clear hr hg hK)
    clear hk2;have HX9:Hid (wa.heap[wo.heap.size]? =some (.cells (trC xk xn xt (.slice xa xl xc) (.slice xd xm xe)) 28 (0,0))):=HXK.out _ HBv1.out;go_upto_region 10 with(first
     |(refine ld_if (by rfl) 28 _ rfl wo.heap.size rfl 28 _ _ _ HX9.out Tryz.underlying28 rfl tr_size12 ?_)
     |(refine bs_list rfl 26 28 _ rfl (trC xk xn xt (.slice xa xl xc) (.slice xd xm xe)) 5 (.agg (trC 0 0 ⟨#[]⟩ (.slice none 0 0) (.slice none 0 0))) rfl rfl (by decide) (by decide) Tryz.underlying26 trl_info ?_;intro wl hl hbl hzl;have HL:=iH hl;have H1:=iH (Hv1.out.later hbl);have HB1:Hid (Below w8.heap.size w8 wl):=tW HBv1.out hbl;clear hl hbl hzl)
     |(refine wpList_plain rfl ?_;intro _ hK;refine rowsC_wp 26 28 _ _ rfl (by_:=80) (ds:=[(trC xk xn xt (.slice xa xl xc) (.slice xd xm xe))]) (z:=.agg (trC 0 0 ⟨#[]⟩ (.slice none 0 0) (.slice none 0 0))) rfl H1.out rfl (cut_one5 HL.out rfl) (one_tree rfl) (oneC fun c hc=>by rw[List.mem_singleton.1 hc];simp[Value.oneCell']) Tryz.underlying26 trl_info3 rfl (by decide) (by have:=HPN.out;simp;omega) (by decide) ?_;intro v2 wb hr hg;refine hK _ _ ?_;have Hv2:=iH hr;have HBv2:Hid (Below w8.heap.size w8 wb):=HB1.out.trans (H1.out.below' hg (Nat.le_refl _) HB1.out.size);clear hr hg hK))
    have hk3:=HK3.out;go_upto_region 11 with(refine wpList_plain rfl ?_;intro _ hK;refine rowsC_wp 26 28 _ _ rfl (by_:=80) (z:=.agg (trC 0 0 ⟨#[]⟩ (.slice none 0 0) (.slice none 0 0))) rfl Hv2.out rfl (HCK2b.out _ HBv2.out) HP2.out (oneC HO2.out) Tryz.underlying26 trl_info3 rfl (by decide) (by have:=HPN.out;simp;omega) (by decide) ?_;intro v3 wc hr hg;refine hK _ _ ?_;have Hv3:=iH hr;have HBv3:Hid (Below w8.heap.size w8 wc):=HBv2.out.trans (Hv2.out.below' hg (Nat.le_refl _) HBv2.out.size);clear hr hg hK)
    clear hk3;have hfin:=HFINb.out v3 wc Hv3.out HBv3.out;have HJN2:=iH hltN;go_wp2_with fail
    go_roundw
    case rel=>exact⟨j+1,_,_,by omega,by go_num,rfl,hfin.1,hfin.2.1,hfin.2.2⟩
    case measure=>simp[intOf];omega
   have hkj:(k:Int)<(j:Int):=by omega
   have k0:(0:Int)<=(k:Int):=by omega
   have hkl:k<ys.length:=by rw[HYL.out];exact hkM
   have hkc:k<css.length:=by rw[<-HPN.out.2.1];exact hkM
   obtain⟨g,oo2,rfl,hce⟩:=HCEL.out k hkM hkc;have hyt:=HYT.out.2 k hkl hkc;obtain⟨yk,yn,yt,ya,yl,yc,yd,ym,ye,e⟩:=hyt.cells;rw[e]at hyt hce;obtain⟨od,hod⟩:∃n,n=ordT ys[k] x:=⟨_,rfl⟩
   have hrn:od= -1\/od=0\/od=1:=by rw[hod];exact orderS_range _ _
   have hins:=insP_at (t:=x) hkl fun q h hq=>insP_lt h (by rw[<-HPP.out];omega)
   rw[<-hod,<-HPP.out]at hins;have HOR:Hid (∀W,Below wr.heap.size wr W->Calls Tryz.prog 13 #[.agg (trC yk yn yt (.slice ya yl yc) (.slice yd ym ye)),.agg (trC xk xn xt (.slice xa xl xc) (.slice xd xm xe))] W fun e w'=>e=.returned (.int .i64 od)/\Below W.heap.size W w'):=fun W hb=>by
    have hbo:=HB8.out.trans ((tW HV.out hb).mono HB8.out.size);rw[hod];exact rf_Order12 _ _ _ _ W (hyt.later (tW HBR.out hbo)) (HXT.out.later hbo) (HYB.out _ (List.getElem_mem hkl)) HXB.out
   have HKS:Hid (∀V,Below wr.heap.size wr V->V.heap[wo.heap.size]? =some (.cells (trC xk xn xt (.slice xa xl xc) (.slice xd xm xe)) 28 (0,0))/\V.rangeAt g (oo2+k*5) (trC yk yn yt (.slice ya yl yc) (.slice yd ym ye)).toList):=fun V hb=>by
    have hb2:=tW HV.out hb;exact⟨HXK.out V hb2,hce V (tW HB8.out hb2)⟩
   have HIN:=iH hins;have HKM:=iH hkM;clear hce hyt e hod hins hkl hkc hkM;rcases hrn with rfl|rfl|rfl
   ·have HK1:Hid (k+1<=p):=HIN.out.1 (by decide)
    go_upto_region 6 with fail
    refine wp_region_T (S:=(fun V=>V.heap[wo.heap.size]? =some (.cells (trC xk xn xt (.slice xa xl xc) (.slice xd xm xe)) 28 (0,0))/\V.rangeAt g (oo2+k*5) (trC yk yn yt (.slice ya yl yc) (.slice yd ym ye)).toList)) [] (by kernel_rfl) (by exact HKS.out _ HW.out) (fun hHeld=> ?_);refine tkL 0 15 (h:=?_);refine tkL 1 16 (h:=?_);(try simp only[pq]);refine tkL 2 17 (h:=?_);refine tkL 3 18 (h:=?_);(try simp only[pq]);refine tkL 4 19 (h:=?_);refine tkL 5 20 (h:=?_);(try simp only[pq]);refine tkL 6 21 (h:=?_);refine tkL 7 22 (h:=?_);(try simp only[pq]);refine tyL 8 23 (hy:=yieldsIf_arr (by rfl) 28 _ rfl g (oo2+k*5) rfl (trC yk yn yt (.slice ya yl yc) (.slice yd ym ye)) _ (fun w hw=>hw.2) Tryz.underlying28 rfl (by exact tr_size12)) (h:=?_);refine tyL 9 24 (hy:=yieldsIf_load_row (by rfl) 28 _ rfl wo.heap.size rfl (trC xk xn xt (.slice xa xl xc) (.slice xd xm xe)) 28 (0,0) _ (fun w hw=>hw.1) Tryz.underlying28 rfl (by exact tr_size12)) (h:=?_);(try simp only[pq]);refine tkO 10 (some 25) (h:=fun K hK=> ?_);go_simp;go_at_call 13;(with_reducible refine(HOR.out _ (by exact HW.out)).mono ?_);rintro r wt ⟨rfl,hb⟩;replace HW:=iH (tW HW.out hb);clear hb;dsimp only;refine hK.out _ _ (by exact HKS.out _ HW.out) (fun hHeld=> ?_);clear hK K;(try simp only[pq]);refine tkL 11 26 (h:=?_);refine tkL 12 27 (h:=?_);(try simp only[pq]);refine wpAnyT_done (by kernel_rfl) ?_ _;clear hHeld;go_wp2_with fail
    go_roundw
    case rel=>exact⟨k+1,HK1.out,by go_num,tW HV.out HW.out⟩
    case measure=>have:=HK1.out;simp[intOf];omega
   ·have HK1:Hid (k+1<=p):=HIN.out.1 (by decide)
    go_upto_region 6 with fail
    refine wp_region_T (S:=(fun V=>V.heap[wo.heap.size]? =some (.cells (trC xk xn xt (.slice xa xl xc) (.slice xd xm xe)) 28 (0,0))/\V.rangeAt g (oo2+k*5) (trC yk yn yt (.slice ya yl yc) (.slice yd ym ye)).toList)) [] (by kernel_rfl) (by exact HKS.out _ HW.out) (fun hHeld=> ?_);refine tkL 0 15 (h:=?_);refine tkL 1 16 (h:=?_);(try simp only[pq]);refine tkL 2 17 (h:=?_);refine tkL 3 18 (h:=?_);(try simp only[pq]);refine tkL 4 19 (h:=?_);refine tkL 5 20 (h:=?_);(try simp only[pq]);refine tkL 6 21 (h:=?_);refine tkL 7 22 (h:=?_);(try simp only[pq]);refine tyL 8 23 (hy:=yieldsIf_arr (by rfl) 28 _ rfl g (oo2+k*5) rfl (trC yk yn yt (.slice ya yl yc) (.slice yd ym ye)) _ (fun w hw=>hw.2) Tryz.underlying28 rfl (by exact tr_size12)) (h:=?_);refine tyL 9 24 (hy:=yieldsIf_load_row (by rfl) 28 _ rfl wo.heap.size rfl (trC xk xn xt (.slice xa xl xc) (.slice xd xm xe)) 28 (0,0) _ (fun w hw=>hw.1) Tryz.underlying28 rfl (by exact tr_size12)) (h:=?_);(try simp only[pq]);refine tkO 10 (some 25) (h:=fun K hK=> ?_);go_simp;go_at_call 13;(with_reducible refine(HOR.out _ (by exact HW.out)).mono ?_);rintro r wt ⟨rfl,hb⟩;replace HW:=iH (tW HW.out hb);clear hb;dsimp only;refine hK.out _ _ (by exact HKS.out _ HW.out) (fun hHeld=> ?_);clear hK K;(try simp only[pq]);refine tkL 11 26 (h:=?_);refine tkL 12 27 (h:=?_);(try simp only[pq]);refine wpAnyT_done (by kernel_rfl) ?_ _;clear hHeld;go_wp2_with fail
    go_roundw
    case rel=>exact⟨k+1,HK1.out,by go_num,tW HV.out HW.out⟩
    case measure=>have:=HK1.out;simp[intOf];omega
   ·obtain rfl:p=k:=HIN.out.2 (by decide)
    go_upto_region 6 with fail
    refine wp_region_T (S:=(fun V=>V.heap[wo.heap.size]? =some (.cells (trC xk xn xt (.slice xa xl xc) (.slice xd xm xe)) 28 (0,0))/\V.rangeAt g (oo2+p*5) (trC yk yn yt (.slice ya yl yc) (.slice yd ym ye)).toList)) [] (by kernel_rfl) (by exact HKS.out _ HW.out) (fun hHeld=> ?_);refine tkL 0 15 (h:=?_);refine tkL 1 16 (h:=?_);(try simp only[pq]);refine tkL 2 17 (h:=?_);refine tkL 3 18 (h:=?_);(try simp only[pq]);refine tkL 4 19 (h:=?_);refine tkL 5 20 (h:=?_);(try simp only[pq]);refine tkL 6 21 (h:=?_);refine tkL 7 22 (h:=?_);(try simp only[pq]);refine tyL 8 23 (hy:=yieldsIf_arr (by rfl) 28 _ rfl g (oo2+p*5) rfl (trC yk yn yt (.slice ya yl yc) (.slice yd ym ye)) _ (fun w hw=>hw.2) Tryz.underlying28 rfl (by exact tr_size12)) (h:=?_);refine tyL 9 24 (hy:=yieldsIf_load_row (by rfl) 28 _ rfl wo.heap.size rfl (trC xk xn xt (.slice xa xl xc) (.slice xd xm xe)) 28 (0,0) _ (fun w hw=>hw.1) Tryz.underlying28 rfl (by exact tr_size12)) (h:=?_);(try simp only[pq]);refine tkO 10 (some 25) (h:=fun K hK=> ?_);go_simp;go_at_call 13;(with_reducible refine(HOR.out _ (by exact HW.out)).mono ?_);rintro r wt ⟨rfl,hb⟩;replace HW:=iH (tW HW.out hb);clear hb;dsimp only;refine hK.out _ _ (by exact HKS.out _ HW.out) (fun hHeld=> ?_);clear hK K;(try simp only[pq]);refine tkL 11 26 (h:=?_);refine tkL 12 27 (h:=?_);(try simp only[pq]);refine wpAnyT_done (by kernel_rfl) ?_ _;clear hHeld;have HBW:Hid (Below w8.heap.size w8 wt):=tW HV.out HW.out;have HE0:Hid (RowsW w8.heap.size 28 5 (.slice (some ⟨wt.heap.size,0,none⟩) 0 0) [] (wt.alloc (.cells #[] 28))):=rowsW_zero HBW.out.size (Nat.le_trans HBW.out.size (Below.newly' _ _).size) (heap_alloc_last _ _);have HB0:Hid (Below w8.heap.size w8 (wt.alloc (.cells #[] 28))):=HBW.out.trans ((Below.newly' wt (.cells #[] 28)).mono HBW.out.size);have hk2:=HK2.out
    go_upto_region 9 with(refine wpList_plain rfl ?_;intro _ hK;refine rowsC_wp 26 28 _ _ rfl (by_:=80) (z:=.agg (trC 0 0 ⟨#[]⟩ (.slice none 0 0) (.slice none 0 0))) rfl HE0.out rfl (HCKb.out _ HB0.out) HP1.out (oneC HO1.out) Tryz.underlying26 trl_info3 rfl (by decide) (by have:=HPN.out;simp;omega) (by decide) ?_;intro v1 wa hr hg;refine hK _ _ ?_;have Hv1:=iH hr;have HBv1:Hid (Below w8.heap.size w8 wa):=HB0.out.trans (HE0.out.below' hg (Nat.le_refl _) HB0.out.size);clear hr hg hK)
    clear hk2;have HX9:Hid (wa.heap[wo.heap.size]? =some (.cells (trC xk xn xt (.slice xa xl xc) (.slice xd xm xe)) 28 (0,0))):=HXK.out _ HBv1.out;go_upto_region 10 with(first
     |(refine ld_if (by rfl) 28 _ rfl wo.heap.size rfl 28 _ _ _ HX9.out Tryz.underlying28 rfl tr_size12 ?_)
     |(refine bs_list rfl 26 28 _ rfl (trC xk xn xt (.slice xa xl xc) (.slice xd xm xe)) 5 (.agg (trC 0 0 ⟨#[]⟩ (.slice none 0 0) (.slice none 0 0))) rfl rfl (by decide) (by decide) Tryz.underlying26 trl_info ?_;intro wl hl hbl hzl;have HL:=iH hl;have H1:=iH (Hv1.out.later hbl);have HB1:Hid (Below w8.heap.size w8 wl):=tW HBv1.out hbl;clear hl hbl hzl)
     |(refine wpList_plain rfl ?_;intro _ hK;refine rowsC_wp 26 28 _ _ rfl (by_:=80) (ds:=[(trC xk xn xt (.slice xa xl xc) (.slice xd xm xe))]) (z:=.agg (trC 0 0 ⟨#[]⟩ (.slice none 0 0) (.slice none 0 0))) rfl H1.out rfl (cut_one5 HL.out rfl) (one_tree rfl) (oneC fun c hc=>by rw[List.mem_singleton.1 hc];simp[Value.oneCell']) Tryz.underlying26 trl_info3 rfl (by decide) (by have:=HPN.out;simp;omega) (by decide) ?_;intro v2 wb hr hg;refine hK _ _ ?_;have Hv2:=iH hr;have HBv2:Hid (Below w8.heap.size w8 wb):=HB1.out.trans (H1.out.below' hg (Nat.le_refl _) HB1.out.size);clear hr hg hK))
    have hk3:=HK3.out;go_upto_region 11 with(refine wpList_plain rfl ?_;intro _ hK;refine rowsC_wp 26 28 _ _ rfl (by_:=80) (z:=.agg (trC 0 0 ⟨#[]⟩ (.slice none 0 0) (.slice none 0 0))) rfl Hv2.out rfl (HCK2b.out _ HBv2.out) HP2.out (oneC HO2.out) Tryz.underlying26 trl_info3 rfl (by decide) (by have:=HPN.out;simp;omega) (by decide) ?_;intro v3 wc hr hg;refine hK _ _ ?_;have Hv3:=iH hr;have HBv3:Hid (Below w8.heap.size w8 wc):=HBv2.out.trans (Hv2.out.below' hg (Nat.le_refl _) HBv2.out.size);clear hr hg hK)
    clear hk3;have hfin:=HFINb.out v3 wc Hv3.out HBv3.out;have HJN2:=iH hltN;go_wp2_with fail
    go_roundw
    case rel=>exact⟨j+1,_,_,by omega,by go_num,rfl,hfin.1,hfin.2.1,hfin.2.2⟩
    case measure=>simp[intOf];omega
end Go.Proofs.YtengibnpebfblaaGreatDoor
