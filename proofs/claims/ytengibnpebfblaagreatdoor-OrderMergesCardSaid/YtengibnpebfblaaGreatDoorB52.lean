import Derived.Test.YtengibnpebfblaaGreatDoorB34
import Derived.Test.YtengibnpebfblaaGreatDoorB36
set_option maxRecDepth 1000000
set_option maxHeartbeats 8000000
set_option linter.unusedSimpArgs false
namespace Go.Proofs.YtengibnpebfblaaGreatDoor
open Go.RowKit
theorem str_info12:(Tryz.prog.info? 9).map (fun i=>(i.zero,i.size,i.bytes))=some (some (.string ⟨#[]⟩),1,16):=by kernel_rfl
theorem str_info13:(Tryz.prog.info? 9).map (fun i=>(i.size,i.zero))=some (1,some (.string ⟨#[]⟩)):=by kernel_rfl
theorem vl_info12:(Tryz.prog.info? 35).map (fun i=>(i.zero,i.size,i.bytes))=some (some (.agg #[.int .i64 0,.int .i64 0,.string ⟨#[]⟩,.pointer none]),4,40):=by kernel_rfl
theorem vl_info13:(Tryz.prog.info? 35).map (fun i=>(i.size,i.zero))=some (4,some (.agg #[.int .i64 0,.int .i64 0,.string ⟨#[]⟩,.pointer none])):=by kernel_rfl
def VaLs (S:Nat->Prop) (w:World) (v:Value) (l:List Tr):Prop:=∃(a:Option Addr) (c b o:Nat),v=.slice a l.length c/\(l.length<=maxLen/\l.length<=c/\((a=none/\c=0)\/(a=some ⟨b,o,none⟩/\b<w.heap.size)))/\(0<l.length->a=some ⟨b,o,none⟩)/\∀j (h:j<l.length),∃y:Cel,ValB l[j]/\VAt S w l[j] y/\w.rangeAt b (o+j*4) (celC y).toList
theorem VaLs.later {S:Nat->Prop} {w w':World} {v:Value} {l:List Tr} (h:VaLs S w v l) (hb:Below w.heap.size w w'):VaLs S w' v l:=by
 obtain⟨a,c,b,o,h1,h2,h3,h4⟩:=h;refine⟨a,c,b,o,h1,⟨h2.1,h2.2.1,h2.2.2.imp_right fun h=>⟨h.1,Nat.lt_of_lt_of_le h.2 hb.size⟩⟩,h3,fun j hj=> ?_⟩;obtain⟨y,q0,q1,q2⟩:=h4 j hj;exact⟨y,q0,q1.later hb,rangeAt_later q2 hb⟩
theorem VaLs.weak {S S':Nat->Prop} {w:World} {v:Value} {l:List Tr} (h:VaLs S w v l) (hs:∀g,S g->S' g):VaLs S' w v l:=by
 obtain⟨a,c,b,o,h1,h2,h3,h4⟩:=h;refine⟨a,c,b,o,h1,h2,h3,fun j hj=> ?_⟩;obtain⟨y,q0,q1,q2⟩:=h4 j hj;exact⟨y,q0,q1.weak hs,q2⟩
def VaNew (n0:Nat) (S:Nat->Prop) (w:World) (v:Value) (l:List Tr):Prop:=∃ys:List Cel,ys.length=l.length/\RowsW n0 35 4 v (ys.map celC) w/\l.length<=200000/\∀j (h:j<l.length) (h':j<ys.length),ValB l[j]/\VAt S w l[j] ys[j]
theorem VaNew.later {n0:Nat} {S:Nat->Prop} {w w':World} {v:Value} {l:List Tr} (h:VaNew n0 S w v l) (hb:Below w.heap.size w w'):VaNew n0 S w' v l:=by
 obtain⟨ys,h1,h2,h3,h4⟩:=h;exact⟨ys,h1,h2.later hb,h3,fun j h h'=>⟨(h4 j h h').1,(h4 j h h').2.later hb⟩⟩
theorem VaNew.weak {n0:Nat} {S S':Nat->Prop} {w:World} {v:Value} {l:List Tr} (h:VaNew n0 S w v l) (hs:∀g,S g->S' g):VaNew n0 S' w v l:=by
 obtain⟨ys,h1,h2,h3,h4⟩:=h;exact⟨ys,h1,h2,h3,fun j h h'=>⟨(h4 j h h').1,(h4 j h h').2.weak hs⟩⟩
theorem VaNew.vaLs {n0:Nat} {S:Nat->Prop} {w:World} {v:Value} {l:List Tr} (h:VaNew n0 S w v l):VaLs S w v l:=by
 obtain⟨ys,h1,h2,h3,h4⟩:=h;have hm:l.length<=maxLen:=by unfold maxLen;omega
 by_cases h0:l=[]
 ·subst h0
  have e:(ys.map celC).length=0:=by rw[List.length_map,h1];rfl
  obtain⟨⟨_,h5⟩,_,_⟩:=h2;rw[e]at h5;rcases h5 with⟨rfl,_⟩|⟨g,cap,cur,rfl,a2,a3,_⟩
  ·exact⟨none,0,0,0,rfl,⟨hm,Nat.zero_le _,.inl ⟨rfl,rfl⟩⟩,fun h=>absurd h (Nat.not_lt_zero _),fun j hj=>absurd hj (Nat.not_lt_zero _)⟩
  ·exact⟨_,cap,g,0,rfl,⟨hm,Nat.zero_le _,.inr ⟨rfl,(gZ a3)⟩⟩,fun h=>absurd h (Nat.not_lt_zero _),fun j hj=>absurd hj (Nat.not_lt_zero _)⟩
 ·have hne:ys.map celC≠[]:=fun e=>h0 (List.eq_nil_of_length_eq_zero (by rw[<-h1,<-List.length_map (f:=celC),e];rfl))
  obtain⟨g,cap,cur,rfl,_,hgh,hcap,_⟩:=h2.at_ hne;have e:(ys.map celC).length=l.length:=by rw[List.length_map,h1]
  rw[e]at hcap;rw[e];refine⟨_,cap,g,0,rfl,⟨hm,hcap,.inr ⟨rfl,(gZ hgh)⟩⟩,fun _=>rfl,fun j hj=> ?_⟩;have hj':j<ys.length:=by rw[h1];exact hj
  obtain⟨p1,p2⟩:=h4 j hj hj';refine⟨ys[j],p1,p2,?_⟩;have h5:=h2.own.read rfl (i:=j) (c:=celC ys[j]) (by rw[List.getElem?_map,List.getElem?_eq_getElem hj'];rfl);rw[Nat.zero_add];exact h5
theorem ld_val12 {ops:Array Oper} {rest:List Oper} {o:Oper} {a:Act} {w:World} {Q:Exit->Act->World->Prop} (hwd:Region.wanted o (yielded ops a.tmps)=true) (y:Operand) (ho:o.op=.load 35 y)
  (b k:Nat) (hx:a.eval y=.pointer (some ⟨b,k,none⟩)) (cs:Array Value) (hR:w.rangeAt b k cs.toList) (hs:cs.size=4)
  (h:wpList Tryz.prog ops Q rest (a.put o.dst (.agg cs)) w):wpList Tryz.prog ops Q (o::rest) a w:=
 wpList_step fun _ hK=>by
  rw[if_pos hwd];exact wp_load_mid 35 y ho b k hx _ _ hR Tryz.underlying35 rfl (by rw[val_size,Array.length_toList,hs]) (hK _ _ h)
theorem rowsW_make {ops:Array Oper} {rest:List Oper} {o:Oper} {a:Act} {Q:Exit->Act->World->Prop} {w:World} (hgd:o.guard=none) (t e:TypeId) (l c:Operand) (hop:o.op=.makeSlice t l c)
  {B s by_:Nat} {z:Value} (hu:Tryz.prog.underlying t=some (.slice e)) (hi:(Tryz.prog.info? e).map (fun i=>(i.zero,i.size,i.bytes))=some (some z,s,by_)) (kl kc:IntKind) (C:Int) (n:Nat) (hl:a.eval l=.int kl 0) (hc:a.eval c=.int kc C) (hC:C=(n:Int)) (hn:n<=10000000) (hby:by_<=1000000) (hB:B<=w.heap.size)
  (h:∀w',RowsW B e s (.slice (some ⟨w.heap.size,0,none⟩) 0 n) [] w'->Below w.heap.size w w'->wpList Tryz.prog ops Q rest (a.put o.dst (.slice (some ⟨w.heap.size,0,none⟩) 0 n)) w'):wpList Tryz.prog ops Q (o::rest) a w:=
 wpList_plain hgd fun _ hK=>by
  obtain⟨i,hi0,hz,h1,h2⟩:=info_parts hi;have hb1:by_*n<=1000000*10000000:=Nat.mul_le_mul hby hn;obtain⟨w',hrun,r1,r2⟩:=run_make_own (P:=Tryz.prog) w B t e i z s hu hi0 hz h1 kl kc n (by rw[h2];omega) (by unfold maxLen;omega) hB;subst hC;unfold Oper.wp;simp[execOp,hop,hl,hc,hrun,Result.andThen];have hb:Below w.heap.size w w':=(Below.refl _ _).grown r2 (Nat.le_refl _) (fun k hk=>by cases hk);exact hK _ _ (h w' ⟨r1,Nat.le_trans hB hb.size,fun c hc=>by cases hc⟩ hb)
theorem own_below {B:Nat} {e:TypeId} {s:Nat} {v:Value} {cs:List (Array Value)} {w w':World} (h:RowsOwn B e s v cs w) (hg:w.grownBy w' v.ownBlock) {X:Nat} (hX:X<=B) (hw:X<=w.heap.size):Below X w w':=by
 rcases h.own with h1|⟨g,cur,fz,h1,h2,h3⟩
 ·rw[h1]at hg
  exact⟨hg.os,hg.tape,hg.output,hg.size,fun k hk=>hg.block k (by omega) (by simp)⟩
 ·rw[h1]at hg
  exact⟨hg.os,hg.tape,hg.output,hg.size,fun k hk=>hg.block k (by omega) (by simp;omega)⟩
def keyR (l:List Tr):List (Array Value):=l.map fun a=> #[.string (kB a)]
theorem keyR_snoc (l:List Tr) {j:Nat} (h:j<l.length):keyR (l.take (j+1))=keyR (l.take j)++[#[.string (kB l[j])]]:=by
 unfold keyR;rw[List.take_succ_eq_append_getElem h,List.map_append];rfl
theorem od_keysOf (l:List Tr) (v:Value) (w:World) (hv:VaLs (fun _=>True) w v l) (hlen:l.length<=90000) (hT:Tab6 w):Calls Tryz.prog 52 #[v] w fun r w'=>∃u,r=.returned u/\RowsOwn w.heap.size 9 1 u (keyR l) w'/\Below w.heap.size w w':=by
 obtain⟨ad,cap,b,oo,rfl,hmax,ha,hr⟩:=hv;obtain⟨N,hN⟩:∃N,N=l.length:=⟨_,rfl⟩
 rw[<-hN];have hn4:(N:Int)<=90000:=by omega
 have HNL:Hid (N=l.length/\N<=90000):=⟨hN,by omega⟩
 have HA:=iH ha;have HR:=iH hr;have HT0:=iH (fun W (hb:Below w.heap.size w W)=>hT.below hb);clear hN hr ha hmax hlen hT;go_enter Tryz.func52,Tryz.ntmps52;go_wp2_with (refine rows_make (B:=w.heap.size) (by_:=16) (z:=.string ⟨#[]⟩) rfl 25 9 _ _ rfl Tryz.underlying25 str_info12 .i64 .i64 _ N rfl rfl rfl (by have:=HNL.out;omega) (by decide) (Nat.le_refl _) ?_;intro w3 h3 hb3;have HRO:=iH h3;have HB3:=iH hb3;clear h3 hb3)
 go_loopw [3,11] (fun a3 i W=>∃(j:Nat) (iv:Value),j<=N/\i=.int .i64 (j:Int)/\iv=a3/\Hid (RowsOwn w.heap.size 9 1 iv (keyR (l.take j)) W)/\Hid (Below w.heap.size w W)) (fun _ i _=>N-(intOf i).toNat)
 case atStart=>exact⟨0,_,Nat.zero_le _,rfl,rfl,HRO.out,HB3.out⟩
 case round=>
  clear HRO HB3
  rename World=>wo
  obtain⟨j,iv,hj,rfl,rfl,HIV,HBR⟩:=hrel;by_cases hlt:j<N
  case neg=>
   obtain rfl:j=N:=by omega
   have hfin:=HIV.out;rw[HNL.out.1,List.take_length]at hfin;have HFIN:=iH hfin;clear hfin;go_wp2_with fail
   go_ret;exact⟨_,rfl,HFIN.out,HBR.out⟩
  have hlt':(j:Int)<(N:Int):=by omega
  have i0:(0:Int)<=(j:Int):=by omega
  have hjl:j<l.length:=by rw[<-HNL.out.1];exact hlt
  obtain rfl:=HA.out (by omega);obtain⟨y,hy0,hy1,hrg⟩:=HR.out j hjl;have HRG:=iH (rangeAt_later hrg HBR.out);have hnx:=keyR_snoc l hjl;obtain⟨ky,hky⟩:∃k,k=kB l[j]:=⟨_,rfl⟩
  rw[<-hky]at hnx;have HNX:=iH hnx;have HKA:Hid (∀W,Below w.heap.size w W->Calls Tryz.prog 41 #[.agg (celC y)] W fun e w'=>e=.returned (.string ky)/\Below W.heap.size W w'):=fun W hb=>by rw[hky];exact va_Key W _ y hy0 (hy1.later hb) (HT0.out W hb)
  have HLN:Hid ((keyR (l.take j)).length=j):=by show _=_;unfold keyR;rw[List.length_map,List.length_take];omega
  have HLT:=iH hlt;have HIV2:=HIV;have HW:=HBR;clear hnx hy0 hy1 hrg hky hlt hjl HIV;go_upto_region 5 with(first
   |(refine ld_val12 (by rfl) _ rfl b (oo+j*4) rfl (celC y) HRG.out rfl ?_)
   |(refine st_agg rfl 35 _ _ rfl wo.heap.size (celC y) rfl rfl 35 #[.int .i64 0,.int .i64 0,.string ⟨#[]⟩,.pointer none] (heap_alloc_last _ _) val_size rfl (celC_one y) ?_;intro w8 h8 k8))
  have hb8:Below wo.heap.size wo w8:=(Below.newly' _ _).trans (k8.below (Nat.le_refl _));have HIV3:=iH (HIV2.out.later hb8);replace HW:=iH (tW HW.out hb8);have H8:=iH h8;clear h8 k8 hb8 HIV2;go_wp2_with (first
   |(refine ld_if rfl 35 _ rfl wo.heap.size rfl 35 _ _ _ H8.out Tryz.underlying35 rfl val_size ?_)
   |(go_at_call 41;(with_reducible refine(HKA.out _ HW.out).mono ?_);rintro r wk ⟨rfl,hb⟩;have HIV4:=iH (HIV3.out.later hb);replace HW:=iH (tW HW.out hb);clear hb)
   |(refine rows_list rfl 25 9 _ _ rfl (by_:=16) (z:=.string ⟨#[]⟩) (c:=#[.string ky]) rfl (HIV4.out.later (Below.newly' _ _)) _ rfl (heap_alloc_last _ _) rfl (by simp[Value.oneCell']) Tryz.underlying25 str_info12 rfl (by decide) (by have:=HLN.out;have:=HNL.out;have:=HLT.out;omega) (by decide) ?_;intro v9 w9 hr hg;have HV9:=iH hr;have HB9:Hid (Below w.heap.size w w9):=(HW.out.trans ((Below.newly' wk (.cells #[.string ky] 9)).mono HW.out.size)).trans (own_below (HIV4.out.later (Below.newly' _ _)) hg (Nat.le_refl _) (Nat.le_trans HW.out.size (Below.newly' _ _).size));clear hr hg))
  go_roundw
  case rel=>exact⟨j+1,_,by have:=HLT.out;omega,by go_num,rfl,by rw[HNX.out];exact HV9.out,HB9.out⟩
  case measure=>have:=HLT.out;simp[intOf];omega
theorem VaNew.snoc {n0:Nat} {S:Nat->Prop} {W':World} {v':Value} {L:List Tr} {ys:List Cel} {x:Tr} {y:Cel} (h1:ys.length=L.length) (h3:L.length<=100000) (h4:∀j (h:j<L.length) (h':j<ys.length),ValB L[j]/\VAt S W' L[j] ys[j]) (hr:RowsW n0 35 4 v' (ys.map celC++[celC y]) W') (hx:ValB x) (hy:VAt S W' x y):VaNew n0 S W' v' (L++[x]):=by
 refine⟨ys++[y],by rw[List.length_append,List.length_append,h1];rfl,by rw[List.map_append];exact hr,by rw[List.length_append,List.length_singleton];omega,fun j h h'=> ?_⟩;rw[List.length_append,List.length_singleton]at h h';rcases Nat.lt_or_ge j L.length with hj|hj
 ·rw[List.getElem_append_left hj,List.getElem_append_left (by omega)]
  exact h4 j hj (by omega)
 ·obtain rfl:j=L.length:=by omega
  rw[List.getElem_append_right (Nat.le_refl _)];have e:(ys++[y])[L.length]=y:=by
   rw[List.getElem_append_right (by omega)];simp
  rw[e];simp;exact⟨hx,hy⟩
theorem RowsW.low {B B':Nat} {e:TypeId} {s:Nat} {v:Value} {cs:List (Array Value)} {w:World} (h:RowsW B e s v cs w) (hB:B'<=B):RowsW B' e s v cs w:=by
 obtain⟨⟨h1,h2⟩,h3,h4⟩:=h;refine⟨⟨h1,h2.imp_right ?_⟩,Nat.le_trans hB h3,h4⟩;rintro⟨g,cap,cur,a1,a2,a3⟩;exact⟨g,cap,cur,a1,Nat.le_trans hB a2,a3⟩
theorem VaNew.low {n0 n1:Nat} {S:Nat->Prop} {W:World} {v:Value} {l:List Tr} (h:VaNew n0 S W v l) (hn:n1<=n0):VaNew n1 S W v l:=by
 obtain⟨ys,h1,h2,h3⟩:=h;exact⟨ys,h1,h2.low hn,h3⟩
theorem VaNew.lt {n0 g:Nat} {S:Nat->Prop} {W:World} {v:Value} {l:List Tr} (h:VaNew n0 S W v l) (hg:v.ownBlock=some g):g<W.heap.size:=by
 obtain⟨ys,h1,h2,h3⟩:=h;exact(h2.own.lt hg).2
theorem VaNew.none {n0:Nat} {S:Nat->Prop} {W:World} {v:Value} (h:RowsW n0 35 4 v [] W):VaNew n0 S W v []:=⟨[],rfl,h,Nat.zero_le _,fun _ h=>absurd h (Nat.not_lt_zero _)⟩
theorem vaNew_wp {ops:Array Oper} {rest:List Oper} {o:Oper} {a:Act} {Q:Exit->Act->World->Prop} {W:World} (hgd:o.guard=none) (p q:Operand)
  (ho:o.op=.call {callee:=.builtin .append,args:=#[p,q],argTypes:=#[52,52]}) {n0:Nat} {S:Nat->Prop} {v:Value} {L:List Tr} {x:Tr} {y:Cel} (hs:a.eval p=v) (hv:VaNew n0 S W v L) (hS:∀g,S g->g<n0) (hn:n0<=W.heap.size) (hlen:L.length<=50000)
  (g cc:Nat) (hq:a.eval q=.slice (some ⟨g,0,none⟩) 1 cc) (hg:W.heap[g]? =some (.cells (celC y) 35 (0,0))) (hx:ValB x) (hy:VAt S W x y)
  (h:∀v' w',VaNew n0 S w' v' (L++[x])->Below n0 W w'->W.grownBy w' v.ownBlock->(v'.ownBlock=v.ownBlock\/∃g',v'.ownBlock=some g'/\W.heap.size<=g')->wpList Tryz.prog ops Q rest (a.put o.dst v') w'):wpList Tryz.prog ops Q (o::rest) a W:=
 wpList_plain hgd fun _ hK=>by
  obtain⟨ys,h1,h2,h3,h4⟩:=hv;refine rowsW_wp 52 35 p q ho (by_:=40) (z:=(.agg #[.int .i64 0,.int .i64 0,.string ⟨#[]⟩,.pointer none])) hs h2 g cc hq hg rfl (celC_one y) Tryz.underlying52 vl_info12 rfl (by decide) (by rw[List.length_map,h1];omega) (by decide) ?_;intro v' w' r1 r2 r3;have hb:Below n0 W w':=own_below h2.own r2 (Nat.le_refl _) hn;have hlow:∀(t:Tr) (c:Cel),VAt S W t c->VAt S w' t c:=fun t c ht=>ht.kq (Kq.low hb hS)
  exact hK _ _ (h v' w' (VaNew.snoc h1 (by omega) (fun j q1 q2=>⟨(h4 j q1 q2).1,hlow _ _ (h4 j q1 q2).2⟩) r1 hx (hlow _ _ hy)) hb r2 r3)
end Go.Proofs.YtengibnpebfblaaGreatDoor
