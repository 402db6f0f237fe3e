import Derived.Test.YtengibnpebfblaaGreatDoorB52
set_option maxRecDepth 1000000
set_option maxHeartbeats 8000000
set_option linter.unusedSimpArgs false
namespace Go.Proofs.YtengibnpebfblaaGreatDoor
open Go.RowKit
theorem step_size12:(Tryz.prog.info? 67).map (·.size)=some 3:=by kernel_rfl
theorem wan_size:(Tryz.prog.info? 118).map (·.size)=some 2:=by kernel_rfl
theorem ld_stp12 {ops:Array Oper} {rest:List Oper} {o:Oper} {a:Act} {w:World} {Q:Exit->Act->World->Prop} (hwd:Region.wanted o (yielded ops a.tmps)=true) (y:Operand) (ho:o.op=.load 67 y)
  (b k:Nat) (hx:a.eval y=.pointer (some ⟨b,k,none⟩)) (cs:Array Value) (hR:w.rangeAt b k cs.toList) (hs:cs.size=3)
  (h:wpList Tryz.prog ops Q rest (a.put o.dst (.agg cs)) w):wpList Tryz.prog ops Q (o::rest) a w:=
 wpList_step fun _ hK=>by
  rw[if_pos hwd];exact wp_load_mid 67 y ho b k hx _ _ hR Tryz.underlying67 rfl (by rw[step_size12,Array.length_toList,hs]) (hK _ _ h)
theorem stp_small12 {a:Tr} (h:ValB a) {e:Stp} (he:e∈stepsT a):e.2.2.size<=9223372036854775800:=by
 unfold stepsT at he;split at he
 ·obtain⟨i,_,rfl⟩:=List.mem_map.1 he
  show(⟨#[]⟩:ByteArray).size<=_;decide
 ·split at he
  ·obtain⟨y,hy,rfl⟩:=List.mem_map.1 he
   exact Nat.le_trans ((txtT_iff.1 h.2).2.1 y hy) (by decide)
  ·obtain⟨y,hy,rfl⟩:=List.mem_map.1 he
   exact Nat.le_trans (h.part hy).kB (by decide)
theorem stp_cut12 {B:Nat} {w:World} {v:Value} {st:List Stp} (h:RowsOwn B 67 3 v (st.map stpC) w):∃a c b o,v=.slice a st.length c/\(0<st.length->a=some ⟨b,o,none⟩)/\∀j (hj:j<st.length),w.rangeAt b (o+j*3) (stpC st[j]).toList:=by
 have h1:=lsT_cut h.lsT;rw[List.length_map]at h1;obtain⟨a,c,rfl,_⟩:=h1.shape;by_cases h0:0<st.length
 ·obtain⟨g,o,c',e,_,_,_,h2⟩:=h1.pos h0
  simp only[Value.slice.injEq]at e;refine⟨a,c,g,o,rfl,fun _=>e.1,fun j hj i u hu=> ?_⟩;have h3:=flat_get 3 (st.map stpC) j i (stpC st[j]) (fun c hc=>by obtain⟨y,_,rfl⟩:=List.mem_map.1 hc;rfl) (by rw[List.getElem?_map,List.getElem?_eq_getElem hj];rfl) (by have:=(List.getElem?_eq_some_iff.1 hu).1;simpa using this);have h4:=h2 (j*3+i) u (by rw[h3,<-Array.getElem?_toList];exact hu);rw[<-Nat.add_assoc]at h4;exact h4
 ·exact⟨a,c,0,0,rfl,fun h=>absurd h h0,fun j hj=>absurd (Nat.lt_of_le_of_lt (Nat.zero_le _) hj) h0⟩
theorem od_parts {B:Nat} (a:Tr) (x:Cel) (sv:Value) (w:World) (ha:ValB a) (hv:VAt (fun _=>True) w a x) (hs:RowsOwn B 67 3 sv ((stepsT a).map stpC) w):Calls Tryz.prog 89 #[sv,.func (.func 34) #[.agg (celC x)] #[]] w fun r w'=>∃u,r=.returned u/\VaNew w.heap.size (fun g=>g<w.heap.size) w' u a.xs/\Below w.heap.size w w':=by
 obtain⟨ad,cap,b,oo,rfl,had,hcs⟩:=stp_cut12 hs;have hsl:=steps_len ha.1.1;obtain⟨N,hN⟩:∃N,N=a.xs.length:=⟨_,rfl⟩
 rw[hsl,<-hN]at had;rw[hsl,<-hN];have hn6:N<=16383:=by rw[hN];exact ha.len
 have hn4:(N:Int)<=16383:=by omega
 have HNL:Hid (N=a.xs.length/\N<=16383/\(stepsT a).length=N):=⟨hN,hn6,by rw[hsl,hN]⟩
 have HA:=iH had;have HCS:=iH hcs;have HVB:=iH ha;have HVX:Hid (VAt (fun g=>g<w.heap.size) w a x):=hv.old.weak fun _ h=>h.2
 clear hN had hcs ha hv hs hsl hn6;go_enter Tryz.func89,Tryz.ntmps89;go_wp2_with (refine rowsW_make (B:=w.heap.size) (by_:=40) (z:=(.agg #[.int .i64 0,.int .i64 0,.string ⟨#[]⟩,.pointer none])) rfl 52 35 _ _ rfl Tryz.underlying52 vl_info12 .i64 .i64 _ N rfl rfl rfl (by have:=HNL.out;omega) (by decide) (Nat.le_refl _) ?_;intro w3 h3 hb3;have HV3:Hid (VaNew w.heap.size (fun g=>g<w.heap.size) w3 (.slice (some ⟨w.heap.size,0,none⟩) 0 N) []):=VaNew.none h3;have HB3:=iH hb3;clear h3 hb3)
 go_loopw [5,15] (fun a5 i W=>∃(k:Nat) (iv:Value),k<=N/\i=.int .i64 (k:Int)/\iv=a5/\Hid (VaNew w.heap.size (fun g=>g<w.heap.size) W iv (a.xs.take k))/\Hid (Below w.heap.size w W)) (fun _ i _=>N-(intOf i).toNat)
 case atStart=>exact⟨0,_,Nat.zero_le _,rfl,rfl,HV3.out,HB3.out⟩
 case round=>
  clear HV3 HB3;obtain⟨k,iv,hk,rfl,rfl,HV,HW⟩:=hrel;by_cases hlt:k<N
  case neg=>
   obtain rfl:k=N:=by omega
   have hfin:=HV.out;rw[List.take_of_length_le (by rw[<-HNL.out.1];exact Nat.le_refl _)]at hfin;have HFIN:=iH hfin;clear hfin;go_wp2_with fail
   go_ret;exact⟨_,rfl,HFIN.out,HW.out⟩
  have hlt':(k:Int)<(N:Int):=by omega
  have i0:(0:Int)<=(k:Int):=by omega
  have hkx:k<a.xs.length:=by rw[<-HNL.out.1];exact hlt
  have hks:k<(stepsT a).length:=by rw[HNL.out.2.2];exact hlt
  obtain rfl:=HA.out (by omega);have hq:=HCS.out k hks;have hgs:=get_step12 HVB.out.1.1 (j:=k) hks;have hsm:=stp_small12 HVB.out (e:=(stepsT a)[k]) (List.getElem_mem hks);obtain⟨e,he⟩:∃e,e=(stepsT a)[k]:=⟨_,rfl⟩
  rw[<-he]at hq hgs hsm;obtain⟨e1,e2,e3⟩:=e;obtain⟨pt,hpt⟩:∃pt,pt=a.xs[k]:=⟨_,rfl⟩
  have HPV:Hid (ValB pt):=by show _;rw[hpt];exact HVB.out.part (List.getElem_mem hkx)
  have HQ:=iH (show wr.rangeAt b (oo+k*3) ((#[.int .i64 e1,.int .i64 e2,.string e3]:Array Value)).toList from rangeAt_later hq HW.out);have HNX:Hid (a.xs.take (k+1)=a.xs.take k++[pt]):=by show _=_;rw[hpt];exact List.take_succ_eq_append_getElem hkx
  rw[<-hpt]at hgs;have HGE:Hid (∀W,Below w.heap.size w W->Calls Tryz.prog 34 #[.agg (celC x),.agg #[.int .i64 e1,.int .i64 e2,.string e3]] W fun r w'=>∃z,r=.returned (.tuple #[.agg (celC z),.int .i64 0])/\VAt (fun g=>g<w.heap.size) w' pt z/\Below W.heap.size W w'):=fun W hb=>by
   have h:=va_Get W a x HVB.out (HVX.out.low hb) e1 e2 e3 hsm;simp only at hgs;rw[hgs]at h;exact h
  have HTL:Hid ((a.xs.take k).length<=50000):=by show _<=_;rw[List.length_take];have:=HNL.out;omega
  have HLT:=iH hlt;clear hlt hkx hks hq hgs hsm he hpt;go_upto_region 5 with(first
   |(refine ld_stp12 (by rfl) _ rfl b (oo+k*3) rfl #[.int .i64 e1,.int .i64 e2,.string e3] HQ.out rfl ?_)
   |(refine st_agg rfl 67 _ _ rfl wr.heap.size #[.int .i64 e1,.int .i64 e2,.string e3] rfl rfl 67 #[.int .i64 0,.int .i64 0,.string ⟨#[]⟩] (heap_alloc_last _ _) step_size12 rfl (by simp[Value.oneCell']) ?_;intro w7 h7 k7))
  have hb7:Below wr.heap.size wr w7:=(Below.newly' _ _).trans (k7.below (Nat.le_refl _));obtain⟨D,hD⟩:∃D,D=wr.heap.size:=⟨_,rfl⟩
  have HD7:=iH h7;rw[<-hD]at HD7 ⊢;have HV7:=iH (HV.out.later hb7);have HW7:=iH (tW HW.out hb7);clear h7 k7 hb7 hD HQ;go_upto_region 6 with(first
   |(refine ld_if rfl 67 _ rfl D rfl 67 _ _ _ HD7.out Tryz.underlying67 rfl step_size12 ?_)
   |(go_at_call 34;(with_reducible refine(HGE.out _ HW7.out).mono ?_);rintro r w8 ⟨z,rfl,hz,hb⟩;have HZ8:=iH hz;have HV8:=iH (HV7.out.later hb);have HW8:=iH (tW HW7.out hb);clear hz hb)
   |(refine st_agg rfl 35 _ _ rfl w8.heap.size (celC z) rfl rfl 35 #[.int .i64 0,.int .i64 0,.string ⟨#[]⟩,.pointer none] (heap_alloc_last _ _) val_size rfl (celC_one z) ?_;intro w9 h9 k9))
  have hb9:Below w8.heap.size w8 w9:=(Below.newly' _ _).trans (k9.below (Nat.le_refl _));obtain⟨Q,hQ⟩:∃Q,Q=w8.heap.size:=⟨_,rfl⟩
  have HQ9:=iH h9;rw[<-hQ]at HQ9 ⊢;have HV9:=iH (HV8.out.later hb9);have HW9:=iH (tW HW8.out hb9);have HZ9:=iH (HZ8.out.later hb9);clear h9 k9 hb9 hQ HZ8;go_wp2_with (first
   |(refine ld_if rfl 35 _ rfl Q rfl 35 _ _ _ HQ9.out Tryz.underlying35 rfl val_size ?_)
   |(refine bs_list rfl 52 35 _ rfl (celC z) 4 (.agg #[.int .i64 0,.int .i64 0,.string ⟨#[]⟩,.pointer none]) rfl rfl (by decide) (by decide) Tryz.underlying52 vl_info13 ?_;intro wl hl hbl hzl;have HL:=iH hl;have HVL:=iH (HV9.out.later hbl);have HYL:=iH (HZ9.out.later hbl);have HWL:=iH (tW HW9.out hbl);clear hl hbl hzl)
   |(refine vaNew_wp rfl _ _ rfl rfl HVL.out (fun g hg=>hg) HWL.out.size HTL.out w9.heap.size _ rfl HL.out HPV.out HYL.out ?_;intro va hva hv9 hb9 _ _;have HVA:=iH hv9;have HBA:=iH (HWL.out.trans (hb9.mono (Nat.le_refl _)));clear hv9 hb9))
  go_roundw
  case rel=>exact⟨k+1,_,by have:=HLT.out;omega,by go_num,rfl,by rw[HNX.out];exact HVA.out,HBA.out⟩
  case measure=>have:=HLT.out;simp[intOf];omega
theorem od_index (l:List Tr) (b:Tr) (v:Value) (w:World) (nb:Int) (kb':ByteArray) (hv:VaLs (fun _=>True) w v l) (hlen:l.length<=90000)
  (hp:∀W,Below w.heap.size w W->∀j (hj:j<l.length) (y:Cel),VAt (fun _=>True) W l[j] y->Calls Tryz.prog 61 #[.agg #[.int .i64 nb,.string kb'],.agg (celC y)] W fun r w'=>r=.returned (.bool (witT l[j] b))/\Below W.heap.size W w'):
  Calls Tryz.prog 113 #[v,.func (.func 61) #[.agg #[.int .i64 nb,.string kb']] #[]] w fun r w'=>(∃n:Int,r=.returned (.int .i64 n)/\decide (n>=0)=witL l b)/\Below w.heap.size w w':=by
 obtain⟨ad,cap,bb,oo,rfl,hmax,ha,hr⟩:=hv;obtain⟨N,hN⟩:∃N,N=l.length:=⟨_,rfl⟩
 rw[<-hN];have hn4:(N:Int)<=90000:=by omega
 have HNL:Hid (N=l.length/\N<=90000):=⟨hN,by omega⟩
 have HA:=iH ha;have HR:=iH hr;have HP:=iH hp;clear hN hr ha hmax hlen hp;go_enter Tryz.func113,Tryz.ntmps113;go_wp2_with fail
 go_loopw [8] (fun i W=>∃k:Nat,k<=N/\i=.int .i64 (k:Int)/\Hid (∀q (h:q<l.length),q<k->witT l[q] b=false)/\Hid (Below w.heap.size w W)) (fun i _=>N-(intOf i).toNat)
 case atStart=>exact⟨0,Nat.zero_le _,rfl,fun q _ h=>absurd h (Nat.not_lt_zero _),Below.refl _ _⟩
 case round=>
  obtain⟨k,hk,rfl,HQ,HW⟩:=hrel;by_cases hlt:k<N
  case neg=>
   obtain rfl:k=N:=by omega
   have HNO:Hid (witL l b=false):=witL_none fun q h=>HQ.out q h (by rw[HNL.out.1];exact h)
   go_wp2_with fail
   go_ret;exact⟨⟨-1,rfl,by rw[HNO.out];rfl⟩,HW.out⟩
  have hlt':(k:Int)<(N:Int):=by omega
  have i0:(0:Int)<=(k:Int):=by omega
  have hkl:k<l.length:=by rw[<-HNL.out.1];exact hlt
  obtain rfl:=HA.out (by omega);obtain⟨y,hy0,hy1,hrg⟩:=HR.out k hkl;have HRG:=iH (rangeAt_later hrg HW.out);obtain⟨bo,hbo⟩:∃q,q=witT l[k] b:=⟨_,rfl⟩
  have HC:Hid (Calls Tryz.prog 61 #[.agg #[.int .i64 nb,.string kb'],.agg (celC y)] wr fun r w'=>r=.returned (.bool bo)/\Below wr.heap.size wr w'):=by rw[hbo];exact HP.out wr HW.out k hkl y (hy1.later HW.out)
  have HBO:=iH hbo;have HKL:=iH hkl;have HLT:=iH hlt;clear hlt hy0 hy1 hrg hbo;cases bo with
  |true=>
   have HYE:Hid (witL l b=true):=witL_some HKL.out HBO.out.symm;go_wp2_with (first
    |(refine ld_val12 (by rfl) _ rfl bb (oo+k*4) rfl (celC y) HRG.out rfl ?_)
    |(go_at_call 61;(with_reducible refine(HC.out).mono ?_);rintro r V ⟨rfl,hb⟩;have HV:=iH (tW HW.out hb);clear hb))
   go_ret;exact⟨⟨(k:Int),rfl,by rw[HYE.out];exact decide_eq_true (by omega)⟩,HV.out⟩
  |false=>
   go_wp2_with (first
    |(refine ld_val12 (by rfl) _ rfl bb (oo+k*4) rfl (celC y) HRG.out rfl ?_)
    |(go_at_call 61;(with_reducible refine(HC.out).mono ?_);rintro r V ⟨rfl,hb⟩;have HV:=iH (tW HW.out hb);clear hb))
   go_roundw
   case rel=>
    refine⟨k+1,by have:=HLT.out;omega,by go_num,fun q h1 h2=> ?_,HV.out⟩;rcases Nat.lt_or_ge q k with h3|h3
    ·exact HQ.out q h1 h3
    ·obtain rfl:q=k:=by omega
     exact HBO.out.symm
   case measure=>have:=HLT.out;simp[intOf];omega
theorem od_contains (l:List Tr) (b:Tr) (v:Value) (w:World) (nb:Int) (kb':ByteArray) (hv:VaLs (fun _=>True) w v l) (hlen:l.length<=90000)
  (hp:∀W,Below w.heap.size w W->∀j (hj:j<l.length) (y:Cel),VAt (fun _=>True) W l[j] y->Calls Tryz.prog 61 #[.agg #[.int .i64 nb,.string kb'],.agg (celC y)] W fun r w'=>r=.returned (.bool (witT l[j] b))/\Below W.heap.size W w'):
  Calls Tryz.prog 88 #[v,.func (.func 61) #[.agg #[.int .i64 nb,.string kb']] #[]] w fun r w'=>r=.returned (.bool (witL l b))/\Below w.heap.size w w':=by
 have HI:=iH (od_index l b v w nb kb' hv hlen hp);obtain⟨R,hR⟩:∃R,R=witL l b:=⟨_,rfl⟩
 rw[<-hR]at HI ⊢;clear hv hp hlen hR;go_enter Tryz.func88,Tryz.ntmps88;go_wp2_with (go_at_call 113;(with_reducible refine(HI.out).mono ?_);rintro r w1 ⟨⟨n,rfl,hn⟩,hb⟩;have HN:=iH hn;have HB:=iH hb;clear hn hb)
 go_ret;refine⟨?_,HB.out⟩;rw[<-HN.out];rfl
theorem tr_ind2 {P:Tr->Prop} (h:∀a:Tr,(∀x∈a.xs,P x)->P a):∀a,P a:=tr_ind fun _ _ _ _ _ ih=>h _ ih
mutual
theorem wit_nod:∀(a b:Tr),witT a b=true->nodT b<=nodT a
 | .nd k n t ks xs,b,h=>by
  rw[witT,Bool.or_eq_true]at h;rcases h with h|h
  ·rw[(same_iff _ _).1 h];exact Nat.le_refl _
  ·have h1:=witL_nod xs b h
   rw[nodT];omega
theorem witL_nod:∀(l:List Tr) (b:Tr),witL l b=true->nodT b<=nodL l
 |[],b,h=>by rw[witL]at h;cases h
 |x::r,b,h=>by
  rw[witL,Bool.or_eq_true]at h;rw[nodL];rcases h with h|h
  ·have:=wit_nod x b h;omega
  ·have:=witL_nod r b h;omega
end
theorem wit_eq (a b:Tr):witT a b=(sameT a b||witL a.xs b):=by cases a;rw[witT];rfl
theorem wit_small {a b:Tr} (h:nodT a<=nodT b):witT a b=sameT a b:=by
 rw[wit_eq];cases hw:witL a.xs b with
 |false=>rw[Bool.or_false]
 |true=>
  have h1:=witL_nod _ _ hw;have h2:=nodT_eq a;omega
theorem wit_big {a b:Tr} (h:nodT b<nodT a):witT a b=witL a.xs b:=by
 rw[wit_eq];cases hs:sameT a b with
 |false=>rw[Bool.false_or]
 |true=>rw[(same_iff _ _).1 hs]at h;omega
theorem same_key {a b:Tr} (ha:ValB a) (hb:ValB b):sameT a b=((kB a).toList==(kB b).toList):=by
 rw[Bool.eq_iff_iff,same_iff,beq_iff_eq,ByteArray.toList_eq,ByteArray.toList_eq,kB_data,kB_data];exact⟨fun h=>by rw[h],fun h=>key_inj ha.1.1 hb.1.1 h⟩
theorem od_win (b:Tr) (hvb:ValB b):∀(a:Tr) (x:Cel) (w:World),ValB a->VAt (fun _=>True) w a x->Tab6 w->Calls Tryz.prog 61 #[.agg #[.int .i64 ((nodT b:Nat):Int),.string (kB b)],.agg (celC x)] w fun r w'=>r=.returned (.bool (witT a b))/\Below w.heap.size w w':=by
 refine tr_ind2 ?_;intro a ih x w ha hv hT;obtain⟨nb,hnb⟩:∃n,n=((nodT b:Nat):Int):=⟨_,rfl⟩
 obtain⟨na,hna⟩:∃n,n=((nodT a:Nat):Int):=⟨_,rfl⟩
 obtain⟨kz,hkz⟩:∃k,k=kB b:=⟨_,rfl⟩
 obtain⟨ka,hka⟩:∃k,k=kB a:=⟨_,rfl⟩
 obtain⟨R,hR⟩:∃R,R=witT a b:=⟨_,rfl⟩
 rw[<-hnb,<-hkz,<-hR];obtain⟨w1,hw1⟩:∃w1,(w.alloc (.cells #[.int .i64 nb,.string kz] 118)).alloc (.cells (celC x) 35)=w1:=⟨_,rfl⟩
 obtain⟨hb1,hx1,hx2,hs1⟩:=two_new hw1;have HNO:Hid (∀W,Below w1.heap.size w1 W->Calls Tryz.prog 60 #[.agg (celC x)] W fun r w'=>r=.returned (.int .i64 na)/\Below W.heap.size W w'):=fun W h=>by rw[hna];exact va_Nodes W a x ha ((hv.later hb1).later h)
 have HKA:Hid (∀W,Below w1.heap.size w1 W->Calls Tryz.prog 41 #[.agg (celC x)] W fun e w'=>e=.returned (.string ka)/\Below W.heap.size W w'):=fun W h=>by rw[hka];exact va_Key W a x ha ((hv.later hb1).later h) ((hT.below hb1).below h)
 have HST:=iH (fun W (h:Below w1.heap.size w1 W)=>va_Steps W a x ha ((hv.later hb1).later h) ((hT.below hb1).below h));have HPA:=iH (fun W sv B (h:Below w1.heap.size w1 W) (hs:RowsOwn B 67 3 sv ((stepsT a).map stpC) W)=>od_parts (B:=B) a x sv W ha ((hv.later hb1).later h) hs);have HCO:Hid (∀W uv,Below w1.heap.size w1 W->VaLs (fun _=>True) W uv a.xs->Calls Tryz.prog 88 #[uv,.func (.func 61) #[.agg #[.int .i64 nb,.string kz]] #[]] W fun r w'=>r=.returned (.bool (witL a.xs b))/\Below W.heap.size W w'):=fun W uv h hu=>od_contains a.xs b uv W nb kz hu (by have:=ha.len;omega) (fun W' h' j hj y hy=>by
  rw[hnb,hkz];exact ih _ (List.getElem_mem hj) y W' (ha.part (List.getElem_mem hj)) hy ((hT.below hb1).below (tW h h')))
 have HKS:Hid (∀V,Below w1.heap.size w1 V->V.heap[w.heap.size]? =some (.cells #[.int .i64 nb,.string kz] 118 (0,0))/\V.heap[(w.heap.size+1)]? =some (.cells (celC x) 35 (0,0))/\V.cell? ⟨w.heap.size,0,none⟩=some (.int .i64 nb)/\V.cell? ⟨w.heap.size,1,none⟩=some (.string kz)):=fun V h=>by
  have h1:=kW h hx1;exact⟨h1,kW h hx2,cell_in h1 rfl,cell_in h1 rfl⟩
 have HB1:=iH hb1;have HW:Hid (Below w1.heap.size w1 w1.drew):=drawn_below w1;by_cases hle:na<=nb
 case pos=>
  have hsm:witT a b=sameT a b:=wit_small (by omega);by_cases heq:na=nb
  case pos=>
   have hke:(ka.toList==kz.toList)=R:=by
    rw[hR,hsm,same_key ha hvb,hka,hkz]
   clear hnb hna hkz hka hR hb1 hx1 hx2 hs1 hsm ha hv hT ih hvb HST HPA HCO;have heq':=heq.symm;subst heq';clear heq;go_enter Tryz.func61,Tryz.ntmps61;go_upto_region 1 with fail
   clear hw1;refine wp_region_T (S:=(fun V=>V.heap[w.heap.size]? =some (.cells #[.int .i64 nb,.string kz] 118 (0,0))/\V.heap[(w.heap.size+1)]? =some (.cells (celC x) 35 (0,0))/\V.cell? ⟨w.heap.size,0,none⟩=some (.int .i64 nb)/\V.cell? ⟨w.heap.size,1,none⟩=some (.string kz))) [] (by kernel_rfl) (by exact HKS.out _ HW.out) (fun hHeld=> ?_);refine tyL 0 5 (hy:=yieldsIf_load_row (by rfl) 35 _ rfl (w.heap.size+1) rfl (celC x) 35 (0,0) _ (fun w hw=>hw.2.1) Tryz.underlying35 rfl (by exact val_size)) (h:=?_);refine tkL 2 7 (h:=?_);(try simp only[pq]);refine tkL 3 8 (h:=?_);(try simp only[pq]);refine tkO 1 (some 6) (h:=fun K hK=> ?_);go_simp;go_at_call 60;(with_reducible refine(HNO.out _ (by exact HW.out)).mono ?_);rintro r wa ⟨rfl,hb⟩;replace HW:=iH (tW HW.out hb);clear hb;dsimp only;refine hK.out _ _ (by exact HKS.out _ HW.out) (fun hHeld=> ?_);clear hK K;(try simp only[pq]);refine tkL 4 9 (h:=?_);(try simp only[pq]);refine wpAnyT_done (by kernel_rfl) ?_ _;clear hHeld;go_upto_region 2 with fail
   replace HW:=iH (HW.out.trans ((drawn_below wa).mono HW.out.size));refine wp_region_T (S:=(fun V=>V.heap[w.heap.size]? =some (.cells #[.int .i64 nb,.string kz] 118 (0,0))/\V.heap[(w.heap.size+1)]? =some (.cells (celC x) 35 (0,0))/\V.cell? ⟨w.heap.size,0,none⟩=some (.int .i64 nb)/\V.cell? ⟨w.heap.size,1,none⟩=some (.string kz))) [] (by kernel_rfl) (by exact HKS.out _ HW.out) (fun hHeld=> ?_);refine tyL 0 10 (hy:=yieldsIf_load_row (by rfl) 35 _ rfl (w.heap.size+1) rfl (celC x) 35 (0,0) _ (fun w hw=>hw.2.1) Tryz.underlying35 rfl (by exact val_size)) (h:=?_);refine tkL 2 12 (h:=?_);(try simp only[pq]);refine tkL 3 13 (h:=?_);(try simp only[pq]);refine tkO 1 (some 11) (h:=fun K hK=> ?_);go_simp;go_at_call 60;(with_reducible refine(HNO.out _ (by exact HW.out)).mono ?_);rintro r wb ⟨rfl,hb⟩;replace HW:=iH (tW HW.out hb);clear hb;dsimp only;refine hK.out _ _ (by exact HKS.out _ HW.out) (fun hHeld=> ?_);clear hK K;(try simp only[pq]);refine tkL 4 14 (h:=?_);refine tkL 5 15 (h:=?_);(try simp only[pq]);refine tyL 6 16 (hy:=yieldsIf_load_row (by rfl) 35 _ rfl (w.heap.size+1) rfl (celC x) 35 (0,0) _ (fun w hw=>hw.2.1) Tryz.underlying35 rfl (by exact val_size)) (h:=?_);refine tkL 8 18 (h:=?_);(try simp only[pq]);refine tkL 9 19 (h:=?_);(try simp only[pq]);refine tkO 7 (some 17) (h:=fun K hK=> ?_);go_simp;go_at_call 41;(with_reducible refine(HKA.out _ (by exact HW.out)).mono ?_);rintro r wc ⟨rfl,hb⟩;replace HW:=iH (tW HW.out hb);clear hb;dsimp only;refine hK.out _ _ (by exact HKS.out _ HW.out) (fun hHeld=> ?_);clear hK K;(try simp only[pq]);refine tkL 10 20 (h:=?_);refine tkL 11 21 (h:=?_);(try simp only[pq]);refine tkL 12 4 (h:=?_);(try simp only[pq]);refine wpAnyT_done (by kernel_rfl) ?_ _;clear hHeld;go_wp2_with fail
   have hb:=tW HB1.out HW.out;go_ret;exact⟨rfl,hb⟩
  have hRf:R=false:=by
   rw[hR,hsm,Bool.eq_false_iff];intro h;rw[(same_iff _ _).1 h]at hna;exact heq (hna.trans hnb.symm)
  subst hRf;have hnn:(na==nb)=false:=beq_eq_false_iff_ne.2 heq;clear hnb hna hkz hka hR hb1 hx1 hx2 hs1 hsm ha hv hT ih hvb HST HPA HCO;go_enter Tryz.func61,Tryz.ntmps61;go_upto_region 1 with fail
  clear hw1;refine wp_region_T (S:=(fun V=>V.heap[w.heap.size]? =some (.cells #[.int .i64 nb,.string kz] 118 (0,0))/\V.heap[(w.heap.size+1)]? =some (.cells (celC x) 35 (0,0))/\V.cell? ⟨w.heap.size,0,none⟩=some (.int .i64 nb)/\V.cell? ⟨w.heap.size,1,none⟩=some (.string kz))) [] (by kernel_rfl) (by exact HKS.out _ HW.out) (fun hHeld=> ?_);refine tyL 0 5 (hy:=yieldsIf_load_row (by rfl) 35 _ rfl (w.heap.size+1) rfl (celC x) 35 (0,0) _ (fun w hw=>hw.2.1) Tryz.underlying35 rfl (by exact val_size)) (h:=?_);refine tkL 2 7 (h:=?_);(try simp only[pq]);refine tkL 3 8 (h:=?_);(try simp only[pq]);refine tkO 1 (some 6) (h:=fun K hK=> ?_);go_simp;go_at_call 60;(with_reducible refine(HNO.out _ (by exact HW.out)).mono ?_);rintro r wa ⟨rfl,hb⟩;replace HW:=iH (tW HW.out hb);clear hb;dsimp only;refine hK.out _ _ (by exact HKS.out _ HW.out) (fun hHeld=> ?_);clear hK K;(try simp only[pq]);refine tkL 4 9 (h:=?_);(try simp only[pq]);refine wpAnyT_done (by kernel_rfl) ?_ _;clear hHeld;go_upto_region 2 with fail
  replace HW:=iH (HW.out.trans ((drawn_below wa).mono HW.out.size));refine wp_region_T (S:=(fun V=>V.heap[w.heap.size]? =some (.cells #[.int .i64 nb,.string kz] 118 (0,0))/\V.heap[(w.heap.size+1)]? =some (.cells (celC x) 35 (0,0))/\V.cell? ⟨w.heap.size,0,none⟩=some (.int .i64 nb)/\V.cell? ⟨w.heap.size,1,none⟩=some (.string kz))) [] (by kernel_rfl) (by exact HKS.out _ HW.out) (fun hHeld=> ?_);refine tyL 0 10 (hy:=yieldsIf_load_row (by rfl) 35 _ rfl (w.heap.size+1) rfl (celC x) 35 (0,0) _ (fun w hw=>hw.2.1) Tryz.underlying35 rfl (by exact val_size)) (h:=?_);refine tkL 2 12 (h:=?_);(try simp only[pq]);refine tkL 3 13 (h:=?_);(try simp only[pq]);refine tkO 1 (some 11) (h:=fun K hK=> ?_);go_simp;go_at_call 60;(with_reducible refine(HNO.out _ (by exact HW.out)).mono ?_);rintro r wb ⟨rfl,hb⟩;replace HW:=iH (tW HW.out hb);clear hb;dsimp only;refine hK.out _ _ (by exact HKS.out _ HW.out) (fun hHeld=> ?_);clear hK K;(try simp only[pq]);refine tkL 4 14 (h:=?_);refine tkL 5 15 (h:=?_);(try simp only[pq]);refine wpAnyT_takeL (i:=6) (oi:=⟨some 16,_,_,_,_,_⟩) (v:=undef) rfl (by kernel_rfl) (by kernel_rfl) (by kernel_rfl) (by kernel_rfl) (fun _ _ _ h=>h) (Or.inr ⟨by rfl,rfl⟩) (by assumption) ?_;(try simp only[pq]);refine wpAnyT_takeL (i:=7) (oi:=⟨some 17,_,_,_,_,_⟩) (v:=undef) rfl (by kernel_rfl) (by kernel_rfl) (by kernel_rfl) (by kernel_rfl) (fun _ _ _ h=>h) (Or.inr ⟨by rfl,rfl⟩) (by assumption) ?_;(try simp only[pq]);refine wpAnyT_takeL (i:=8) (oi:=⟨some 18,_,_,_,_,_⟩) (v:=undef) rfl (by kernel_rfl) (by kernel_rfl) (by kernel_rfl) (by kernel_rfl) (fun _ _ _ h=>h) (Or.inr ⟨by rfl,rfl⟩) (by assumption) ?_;(try simp only[pq]);refine wpAnyT_takeL (i:=9) (oi:=⟨some 19,_,_,_,_,_⟩) (v:=undef) rfl (by kernel_rfl) (by kernel_rfl) (by kernel_rfl) (by kernel_rfl) (fun _ _ _ h=>h) (Or.inr ⟨by rfl,rfl⟩) (by assumption) ?_;(try simp only[pq])
  refine wpAnyT_takeL (i:=10) (oi:=⟨some 20,_,_,_,_,_⟩) (v:=undef) rfl (by kernel_rfl) (by kernel_rfl) (by kernel_rfl) (by kernel_rfl) (fun _ _ _ h=>h) (Or.inr ⟨by rfl,rfl⟩) (by assumption) ?_;(try simp only[pq]);refine tkL 11 21 (h:=?_);refine tkL 12 4 (h:=?_);(try simp only[pq]);refine wpAnyT_done (by kernel_rfl) ?_ _;clear hHeld;go_wp2_with fail
  have hb:=tW HB1.out HW.out;go_ret;exact⟨rfl,hb⟩
 have hbg:witL a.xs b=R:=by rw[hR,wit_big (by omega)]
 rw[hbg]at HCO;clear hnb hna hkz hka hR hb1 hx1 hx2 hs1 hbg ha hv hT ih hvb HKA;go_enter Tryz.func61,Tryz.ntmps61;go_upto_region 1 with fail
 clear hw1;refine wp_region_T (S:=(fun V=>V.heap[w.heap.size]? =some (.cells #[.int .i64 nb,.string kz] 118 (0,0))/\V.heap[(w.heap.size+1)]? =some (.cells (celC x) 35 (0,0))/\V.cell? ⟨w.heap.size,0,none⟩=some (.int .i64 nb)/\V.cell? ⟨w.heap.size,1,none⟩=some (.string kz))) [] (by kernel_rfl) (by exact HKS.out _ HW.out) (fun hHeld=> ?_);refine tyL 0 5 (hy:=yieldsIf_load_row (by rfl) 35 _ rfl (w.heap.size+1) rfl (celC x) 35 (0,0) _ (fun w hw=>hw.2.1) Tryz.underlying35 rfl (by exact val_size)) (h:=?_);refine tkL 2 7 (h:=?_);(try simp only[pq]);refine tkL 3 8 (h:=?_);(try simp only[pq]);refine tkO 1 (some 6) (h:=fun K hK=> ?_);go_simp;go_at_call 60;(with_reducible refine(HNO.out _ (by exact HW.out)).mono ?_);rintro r wa ⟨rfl,hb⟩;replace HW:=iH (tW HW.out hb);clear hb;dsimp only;refine hK.out _ _ (by exact HKS.out _ HW.out) (fun hHeld=> ?_);clear hK K;(try simp only[pq]);refine tkL 4 9 (h:=?_);(try simp only[pq]);refine wpAnyT_done (by kernel_rfl) ?_ _;clear hHeld;go_upto_region 3 with fail
 replace HW:=iH (HW.out.trans ((drawn_below wa).mono HW.out.size));refine wp_region_T (S:=(fun V=>V.heap[w.heap.size]? =some (.cells #[.int .i64 nb,.string kz] 118 (0,0))/\V.heap[(w.heap.size+1)]? =some (.cells (celC x) 35 (0,0))/\V.cell? ⟨w.heap.size,0,none⟩=some (.int .i64 nb)/\V.cell? ⟨w.heap.size,1,none⟩=some (.string kz))) [] (by kernel_rfl) (by exact HKS.out _ HW.out) (fun hHeld=> ?_);refine tyL 0 22 (hy:=yieldsIf_load_row (by rfl) 35 _ rfl (w.heap.size+1) rfl (celC x) 35 (0,0) _ (fun w hw=>hw.2.1) Tryz.underlying35 rfl (by exact val_size)) (h:=?_);refine tyL 2 24 (hy:=yieldsIf_load_row (by rfl) 35 _ rfl (w.heap.size+1) rfl (celC x) 35 (0,0) _ (fun w hw=>hw.2.1) Tryz.underlying35 rfl (by exact val_size)) (h:=?_);(try simp only[pq]);refine tyL 5 27 (hy:=yieldsIf_load_row (by rfl) 118 _ rfl w.heap.size rfl #[.int .i64 nb,.string kz] 118 (0,0) _ (fun w hw=>hw.1) Tryz.underlying118 rfl (by exact wan_size)) (h:=?_);refine tkL 3 25 (h:=?_);(try simp only[pq]);refine tkL 6 28 (h:=?_);(try simp only[pq]);refine tkO 1 (some 23) (h:=fun K hK=> ?_);go_simp;go_at_call 33;(with_reducible refine(HST.out _ (by exact HW.out)).mono ?_);rintro r wd ⟨sv,rfl,hsv,hb⟩;have HSV:=iH hsv;have HS0:=iH HW.out;replace HW:=iH (tW HW.out hb);clear hb hsv;dsimp only;refine hK.out _ _ (by exact HKS.out _ HW.out) (fun hHeld=> ?_);clear hK K;(try simp only[pq]);refine tkO 4 (some 26) (h:=fun K hK=> ?_);go_simp;go_at_call 89;(with_reducible refine(HPA.out _ _ _ (by exact HW.out) HSV.out).mono ?_);rintro r we ⟨uv,rfl,huv,hb⟩;have HUV:=iH huv;replace HW:=iH (tW HW.out hb);clear hb huv;dsimp only;refine hK.out _ _ (by exact HKS.out _ HW.out) (fun hHeld=> ?_);clear hK K;(try simp only[pq]);refine tkO 7 (some 29) (h:=fun K hK=> ?_);go_simp;go_at_call 88;(with_reducible refine(HCO.out _ _ (by exact HW.out) (HUV.out.vaLs.weak fun _ _=>trivial)).mono ?_);rintro r wf ⟨rfl,hb⟩;replace HW:=iH (tW HW.out hb);clear hb;dsimp only;refine hK.out _ _ (by exact HKS.out _ HW.out) (fun hHeld=> ?_);clear hK K
 (try simp only[pq]);refine tkL 8 4 (h:=?_);(try simp only[pq]);refine wpAnyT_done (by kernel_rfl) ?_ _;clear hHeld;go_wp2_with fail
 have hb:=tW HB1.out HW.out;go_ret;exact⟨rfl,hb⟩
theorem od_Within (a b:Tr) (x y:Cel) (w:World) (ha:ValB a) (hvb:ValB b) (hv:VAt (fun _=>True) w a x) (hu:VAt (fun _=>True) w b y) (hT:Tab6 w):Calls Tryz.prog 31 #[.agg (celC x),.agg (celC y)] w fun r w'=>r=.returned (.bool (witT a b))/\Below w.heap.size w w':=by
 obtain⟨nb,hnb⟩:∃n,n=((nodT b:Nat):Int):=⟨_,rfl⟩
 obtain⟨kz,hkz⟩:∃k,k=kB b:=⟨_,rfl⟩
 obtain⟨R,hR⟩:∃R,R=witT a b:=⟨_,rfl⟩
 obtain⟨w1,hw1⟩:∃w1,(w.alloc (.cells (celC x) 35)).alloc (.cells (celC y) 35)=w1:=⟨_,rfl⟩
 obtain⟨hb1,hx1,hx2,hs1⟩:=two_new hw1;have HNO:Hid (∀W,Below w1.heap.size w1 W->Calls Tryz.prog 60 #[.agg (celC y)] W fun r w'=>r=.returned (.int .i64 nb)/\Below W.heap.size W w'):=fun W h=>by rw[hnb];exact va_Nodes W b y hvb ((hu.later hb1).later h)
 have HKA:Hid (∀W,Below w1.heap.size w1 W->Calls Tryz.prog 41 #[.agg (celC y)] W fun e w'=>e=.returned (.string kz)/\Below W.heap.size W w'):=fun W h=>by rw[hkz];exact va_Key W b y hvb ((hu.later hb1).later h) ((hT.below hb1).below h)
 have HWI:Hid (∀W,Below w1.heap.size w1 W->Calls Tryz.prog 61 #[.agg #[.int .i64 nb,.string kz],.agg (celC x)] W fun r w'=>r=.returned (.bool R)/\Below W.heap.size W w'):=fun W h=>by rw[hnb,hkz,hR];exact od_win b hvb a x W ha ((hv.later hb1).later h) ((hT.below hb1).below h)
 have HKS:Hid (∀V,Below w1.heap.size w1 V->V.heap[w.heap.size]? =some (.cells (celC x) 35 (0,0))/\V.heap[(w.heap.size+1)]? =some (.cells (celC y) 35 (0,0))):=fun V h=>⟨kW h hx1,kW h hx2⟩
 have HB1:=iH hb1;have HW:Hid (Below w1.heap.size w1 w1.drew):=drawn_below w1;rw[<-hR];clear hnb hkz hR hb1 hx1 hx2 hs1 ha hvb hv hu hT;go_enter Tryz.func31,Tryz.ntmps31;go_upto_region 1 with fail
 clear hw1;refine wp_region_T (S:=(fun V=>V.heap[w.heap.size]? =some (.cells (celC x) 35 (0,0))/\V.heap[(w.heap.size+1)]? =some (.cells (celC y) 35 (0,0)))) [] (by kernel_rfl) (by exact HKS.out _ HW.out) (fun hHeld=> ?_);refine tyL 0 5 (hy:=yieldsIf_load_row (by rfl) 35 _ rfl (w.heap.size+1) rfl (celC y) 35 (0,0) _ (fun w hw=>hw.2) Tryz.underlying35 rfl (by exact val_size)) (h:=?_);refine tyL 2 7 (hy:=yieldsIf_load_row (by rfl) 35 _ rfl (w.heap.size+1) rfl (celC y) 35 (0,0) _ (fun w hw=>hw.2) Tryz.underlying35 rfl (by exact val_size)) (h:=?_);(try simp only[pq]);refine tyL 5 10 (hy:=yieldsIf_load_row (by rfl) 35 _ rfl w.heap.size rfl (celC x) 35 (0,0) _ (fun w hw=>hw.1) Tryz.underlying35 rfl (by exact val_size)) (h:=?_);(try simp only[pq]);refine tkO 1 (some 6) (h:=fun K hK=> ?_);go_simp;go_at_call 60;(with_reducible refine(HNO.out _ (by exact HW.out)).mono ?_);rintro r wa ⟨rfl,hb⟩;replace HW:=iH (tW HW.out hb);clear hb;dsimp only;refine hK.out _ _ (by exact HKS.out _ HW.out) (fun hHeld=> ?_);clear hK K;(try simp only[pq]);refine tkO 3 (some 8) (h:=fun K hK=> ?_);go_simp;go_at_call 41;(with_reducible refine(HKA.out _ (by exact HW.out)).mono ?_);rintro r wb ⟨rfl,hb⟩;replace HW:=iH (tW HW.out hb);clear hb;dsimp only;refine hK.out _ _ (by exact HKS.out _ HW.out) (fun hHeld=> ?_);clear hK K;(try simp only[pq]);refine tkL 4 9 (h:=?_);(try simp only[pq]);refine tkO 6 (some 11) (h:=fun K hK=> ?_);go_simp;go_at_call 61;(with_reducible refine(HWI.out _ (by exact HW.out)).mono ?_);rintro r wc ⟨rfl,hb⟩;replace HW:=iH (tW HW.out hb);clear hb;dsimp only;refine hK.out _ _ (by exact HKS.out _ HW.out) (fun hHeld=> ?_);clear hK K;(try simp only[pq]);refine tkL 7 4 (h:=?_);(try simp only[pq]);refine wpAnyT_done (by kernel_rfl) ?_ _;clear hHeld;go_wp2_with fail
 have hb:=tW HB1.out HW.out;go_ret;exact⟨rfl,hb⟩
end Go.Proofs.YtengibnpebfblaaGreatDoor
