import Derived.Test.YtengibnpebfblaaGreatDoorB56
set_option maxRecDepth 1000000
set_option maxHeartbeats 8000000
set_option linter.unusedSimpArgs false
namespace Go.Proofs.YtengibnpebfblaaGreatDoor
open Go.RowKit
def S12 (n0:Nat) (vs ts:Value) (g:Nat):Prop:=n0<=g/\vs.ownBlock≠some g/\ts.ownBlock≠some g
theorem vat_on12 {V V':World} {X:Option Nat} {S S':Nat->Prop} {x:Tr} {y:Cel} (h:VAt S V x y) (hg:V.grownBy V' X) (hx:∀g,X=some g->¬S g) (hS:∀g,S g->g<V.heap.size->S' g):VAt S' V' x y:=
 h.imp (fun g _ hs ho=>(hg.block g (gZ ho) (fun e=>hx g e.symm hs)).trans ho) hS
structure Two12 (n0:Nat) (L M:List Tr) (vs ts:Value) (V:World):Prop where
 vals:∃ys:List Cel,ys.length=L.length/\RowsW n0 35 4 vs (ys.map celC) V/\∀j (h:j<L.length) (h':j<ys.length),ValB L[j]/\VAt (S12 n0 vs ts) V L[j] ys[j]
 trs:∃css:List (Array Value),css.length=M.length/\RowsW n0 28 5 ts css V/\∀j (h:j<M.length) (h':j<css.length),TrS (S12 n0 vs ts) V M[j] (.agg css[j])
theorem S12.swap {n0:Nat} {vs ts:Value} {g:Nat}:S12 n0 vs ts g↔S12 n0 ts vs g:=⟨fun h=>⟨h.1,h.2.2,h.2.1⟩,fun h=>⟨h.1,h.2.2,h.2.1⟩⟩
section
variable {n0 : Nat} {L M : List Tr} {vs ts : Value} {V V' : World}
theorem Two12.later (h:Two12 n0 L M vs ts V) (hb:Below V.heap.size V V'):Two12 n0 L M vs ts V':=by
 obtain⟨⟨ys,a1,a2,a3⟩,css,b1,b2,b3⟩:=h;exact⟨⟨ys,a1,a2.later hb,fun j p q=>⟨(a3 j p q).1,(a3 j p q).2.later hb⟩⟩,css,b1,b2.later hb,fun j p q=>(b3 j p q).later hb⟩
theorem Two12.only {X:Nat} (h:Two12 n0 L M vs ts V) (k:Only X V V') (hX:X<n0):Two12 n0 L M vs ts V':=by
 obtain⟨⟨ys,a1,a2,a3⟩,css,b1,b2,b3⟩:=h;have hx0:∀g,some X=some g->¬S12 n0 vs ts g:=fun g e hs=>by have:=Option.some.inj e;have:=hs.1;omega
 have n1:vs.ownBlock≠some X:=fun e=>by have:=(a2.own.lt e).1;omega
 have n2:ts.ownBlock≠some X:=fun e=>by have:=(b2.own.lt e).1;omega
 exact⟨⟨ys,a1,a2.grown k.by_ (.inr n1),fun j p q=>⟨(a3 j p q).1,vat_on12 (a3 j p q).2 k.by_ hx0 fun _ h _=>h⟩⟩,css,b1,b2.grown k.by_ (.inr n2),fun j p q=>(b3 j p q).imp (KT.grown k.by_ hx0) fun _ h _=>h⟩
theorem Two12.fresh (h:Two12 n0 L M vs ts V) (hn:n0<=V.heap.size) {g:Nat} (hg:V.heap.size<=g):S12 n0 vs ts g:=by
 obtain⟨⟨ys,_,a2,_⟩,css,_,b2,_⟩:=h;exact⟨Nat.le_trans hn hg,fun e=>by have:=(a2.own.lt e).2;omega,fun e=>by have:=(b2.own.lt e).2;omega⟩
theorem Two12.lt1 (h:Two12 n0 L M vs ts V) {g:Nat} (e:vs.ownBlock=some g):g<V.heap.size:=by
 obtain⟨⟨ys,_,a2,_⟩,_⟩:=h;exact(a2.own.lt e).2
theorem Two12.lt2 (h:Two12 n0 L M vs ts V) {g:Nat} (e:ts.ownBlock=some g):g<V.heap.size:=by
 obtain⟨_,css,_,b2,_⟩:=h;exact(b2.own.lt e).2
theorem kind_on {vs':Value} (ho:vs'.ownBlock=vs.ownBlock\/∃g',vs'.ownBlock=some g'/\V.heap.size<=g') {g:Nat} (hg:S12 n0 vs ts g) (hl:g<V.heap.size):S12 n0 vs' ts g:=by
 refine⟨hg.1,fun e=> ?_,hg.2.2⟩;rcases ho with h|⟨g',h,h'⟩
 ·exact hg.2.1 (h.symm.trans e)
 ·rw[h]at e
  obtain rfl:=Option.some.inj e;omega
theorem kind_on2 {ts':Value} (ho:ts'.ownBlock=ts.ownBlock\/∃g',ts'.ownBlock=some g'/\V.heap.size<=g') {g:Nat} (hg:S12 n0 vs ts g) (hl:g<V.heap.size):S12 n0 vs ts' g:=S12.swap.1 (kind_on ho (S12.swap.1 hg) hl)
theorem trs_on {X:Option Nat} {S S':Nat->Prop} {x:Tr} {v:Value} (h:TrS S V x v) (hg:V.grownBy V' X) (hx:∀g,X=some g->¬S g) (hS:∀g,S g->g<V.heap.size->S' g):TrS S' V' x v:=h.imp (KT.grown hg hx) hS
theorem get_snoc {α:Type} {l:List α} {a:α} {j:Nat} (h:j<(l++[a]).length):(∃h':j<l.length,(l++[a])[j]=l[j])\/(j=l.length/\(l++[a])[j]=a):=by
 rw[List.length_append,List.length_singleton]at h;rcases Nat.lt_or_ge j l.length with hj|hj
 ·exact .inl ⟨hj,List.getElem_append_left hj⟩
 ·obtain rfl:j=l.length:=by omega
  exact .inr ⟨rfl,by rw[List.getElem_append_right (Nat.le_refl _)];simp⟩
theorem two12_v {o:Oper} {a:Act} {K:Act->World->Prop} {Q:Exit->Act->World->Prop} (p q:Operand) (ho:o.op=.call {callee:=.builtin .append,args:=#[p,q],argTypes:=#[52,52]}) (hs:a.eval p=vs) (h:Two12 n0 L M vs ts V) (hn:n0<=V.heap.size) (hlen:L.length<=5000)
  {x:Tr} {y:Cel} (g cc:Nat) (hq:a.eval q=.slice (some ⟨g,0,none⟩) 1 cc) (hg:V.heap[g]? =some (.cells (celC y) 35 (0,0))) (hx:ValB x) (hy:VAt (S12 n0 vs ts) V x y)
  (hk:∀v' w',Two12 n0 (L++[x]) M v' ts w'->Below n0 V w'->V.grownBy w' vs.ownBlock->(v'.ownBlock=vs.ownBlock\/∃g',v'.ownBlock=some g'/\V.heap.size<=g')->K (a.put o.dst v') w'):o.wp Tryz.prog a V K Q:=by
 obtain⟨⟨ys,a1,a2,a3⟩,css,b1,b2,b3⟩:=h;refine rowsW_wp 52 35 p q ho (by_:=40) (z:=(.agg #[.int .i64 0,.int .i64 0,.string ⟨#[]⟩,.pointer none])) hs a2 g cc hq hg rfl (celC_one y) Tryz.underlying52 vl_info12 rfl (by decide) (by rw[List.length_map,a1];omega) (by decide) ?_;intro v' w' r1 r2 r3;have hx0:∀g,vs.ownBlock=some g->¬S12 n0 vs ts g:=fun g e hs=>hs.2.1 e
 have hS:∀g,S12 n0 vs ts g->g<V.heap.size->S12 n0 v' ts g:=fun g hs hl=>kind_on r3 hs hl
 refine hk v' w' ⟨⟨ys++[y],by rw[List.length_append,List.length_append,a1];rfl,by rw[List.map_append];exact r1,fun j q1 q2=> ?_⟩,css,b1,b2.apart3 a2 r2 (by decide),fun j q1 q2=>trs_on (b3 j q1 q2) r2 hx0 hS⟩ (own_below a2.own r2 (Nat.le_refl _) hn) r2 r3;rcases get_snoc q1 with⟨h1,e1⟩|⟨h1,e1⟩<;>rcases get_snoc q2 with⟨h2,e2⟩|⟨h2,e2⟩
 ·rw[e1,e2]
  exact⟨(a3 j h1 h2).1,vat_on12 (a3 j h1 h2).2 r2 hx0 hS⟩
 ·omega
 ·omega
 ·rw[e1,e2]
  exact⟨hx,vat_on12 hy r2 hx0 hS⟩
theorem two12_t {o:Oper} {a:Act} {K:Act->World->Prop} {Q:Exit->Act->World->Prop} (p q:Operand) (ho:o.op=.call {callee:=.builtin .append,args:=#[p,q],argTypes:=#[26,26]}) (hs:a.eval p=ts) (h:Two12 n0 L M vs ts V) (hn:n0<=V.heap.size) (hlen:M.length<=5000)
  {x:Tr} {c:Array Value} (g cc:Nat) (hq:a.eval q=.slice (some ⟨g,0,none⟩) 1 cc) (hg:V.heap[g]? =some (.cells c 28 (0,0))) (hc:c.size=5) (h1:c.all (·.oneCell')=true) (hy:TrS (S12 n0 vs ts) V x (.agg c))
  (hk:∀t' w',Two12 n0 L (M++[x]) vs t' w'->Below n0 V w'->V.grownBy w' ts.ownBlock->(t'.ownBlock=ts.ownBlock\/∃g',t'.ownBlock=some g'/\V.heap.size<=g')->K (a.put o.dst t') w'):o.wp Tryz.prog a V K Q:=by
 obtain⟨⟨ys,a1,a2,a3⟩,css,b1,b2,b3⟩:=h;refine rowsW_wp 26 28 p q ho (by_:=80) (z:=.agg (trC 0 0 ⟨#[]⟩ (.slice none 0 0) (.slice none 0 0))) hs b2 g cc hq hg hc h1 Tryz.underlying26 trl_info3 rfl (by decide) (by rw[b1];omega) (by decide) ?_;intro t' w' r1 r2 r3;have hx0:∀g,ts.ownBlock=some g->¬S12 n0 vs ts g:=fun g e hs=>hs.2.2 e
 have hS:∀g,S12 n0 vs ts g->g<V.heap.size->S12 n0 vs t' g:=fun g hs hl=>kind_on2 r3 hs hl
 refine hk t' w' ⟨⟨ys,a1,a2.apart3 b2 r2 (by decide),fun j q1 q2=>⟨(a3 j q1 q2).1,vat_on12 (a3 j q1 q2).2 r2 hx0 hS⟩⟩,css++[c],by rw[List.length_append,List.length_append,b1];rfl,r1,fun j q1 q2=> ?_⟩ (own_below b2.own r2 (Nat.le_refl _) hn) r2 r3;rcases get_snoc q1 with⟨h1,e1⟩|⟨h1,e1⟩<;>rcases get_snoc q2 with⟨h2,e2⟩|⟨h2,e2⟩
 ·rw[e1,e2]
  exact trs_on (b3 j h1 h2) r2 hx0 hS
 ·omega
 ·omega
 ·rw[e1,e2]
  exact trs_on hy r2 hx0 hS
end
theorem trLs_rows {B:Nat} {v:Value} {css:List (Array Value)} {l:List Tr} {W:World} (h:RowsW B 28 5 v css W) (hl:css.length=l.length) (hm:l.length<=200000) (ht:∀j (h:j<l.length) (h':j<css.length),TrV W l[j] (.agg css[j])):TrLs W v l:=by
 have h1:=lsT_cut h.own.lsT;rw[hl]at h1;obtain⟨a,c,rfl,_⟩:=h1.shape;have hmx:l.length<=maxLen:=by unfold maxLen;omega
 by_cases h0:0<l.length
 ·obtain⟨g,o,c',e,_,_,_,h2⟩:=h1.pos h0
  simp only[Value.slice.injEq]at e;refine⟨a,c,g,o,rfl,hmx,fun _=>e.1,fun j hj=> ?_⟩;have hj':j<css.length:=by rw[hl];exact hj
  refine⟨css[j],h.2.2 _ (List.getElem_mem hj'),ht j hj hj',fun i u hu=> ?_⟩;have h3:=flat_get 5 css j i css[j] h.2.2 (List.getElem?_eq_getElem hj') (by have:=(List.getElem?_eq_some_iff.1 hu).1;rw[Array.length_toList,h.2.2 _ (List.getElem_mem hj')]at this;exact this);have h4:=h2 (j*5+i) u (by rw[h3,<-Array.getElem?_toList];exact hu);rw[<-Nat.add_assoc]at h4;exact h4
 ·exact⟨a,c,0,0,rfl,hmx,fun h=>absurd h h0,fun j hj=>absurd (Nat.lt_of_le_of_lt (Nat.zero_le _) hj) h0⟩
theorem Two12.lists {n0:Nat} {L M:List Tr} {vs ts:Value} {V:World} (h:Two12 n0 L M vs ts V) (hl:L.length<=200000) (hm:M.length<=200000):VaLs (fun _=>True) V vs L/\TrLs V ts M:=by
 obtain⟨⟨ys,a1,a2,a3⟩,css,b1,b2,b3⟩:=h;exact⟨VaNew.vaLs (n0:=n0) ⟨ys,a1,a2,hl,fun j p q=>⟨(a3 j p q).1,(a3 j p q).2.weak fun _ _=>trivial⟩⟩,trLs_rows b2 b1 hm fun j p q=>(b3 j p q).trv⟩
theorem lw_all (sa:Nat) (ba:Int) (sb:Nat) (bb:Int) (l:List Tr) (v:Value) (w:World) (hsa:sa<18446744073709551616) (hsb:sb<18446744073709551616) (hv:TrLs w v l) (hok:∀x∈l,okR x=true) (hlen:l.length<=4000) (hT:Tab6 w):
  Calls Tryz.prog 22 #[.agg #[.int .u64 (sa:Int),.int .i64 ba],.agg #[.int .u64 (sb:Int),.int .i64 bb],v] w fun r w'=>∃vv tv,r=.returned (.tuple #[vv,tv])/\Two12 (w.heap.size+2) (l.map canT) (l.map canT) vv tv w'/\Below w.heap.size w w':=by
 obtain⟨ad,cap,b,oo,rfl,hmax,ha,hr⟩:=hv;obtain⟨w1,hw1⟩:∃w1,(w.alloc (.cells #[.int .u64 (sa:Int),.int .i64 ba] 24)).alloc (.cells #[.int .u64 (sb:Int),.int .i64 bb] 24)=w1:=⟨_,rfl⟩
 obtain⟨hb1,hx1,hx2,hs1⟩:=two_new hw1;obtain⟨N,hN⟩:∃N,N=l.length:=⟨_,rfl⟩
 rw[<-hN];have hn4:(N:Int)<=4000:=by omega
 have HNL:Hid (N=l.length/\N<=4000):=⟨hN,by omega⟩
 have HA:=iH ha;have HR:=iH hr;have HOKS:=iH hok;have HT0:=iH (fun W (hb:Below w.heap.size w W)=>hT.below hb);have HS0:Hid (sa<18446744073709551616/\sb<18446744073709551616):=⟨hsa,hsb⟩
 have HX0:=iH (And.intro hx1 hx2);have HB0:=iH hb1;have HZ0:Hid (w.heap.size+2<=w1.heap.size):=(by show _<=_;omega)
 have HTW0:Hid (Two12 (w.heap.size+2) ((l.map canT).take 0) ((l.map canT).take 0) (.slice none 0 0) (.slice none 0 0) w1):=⟨⟨[],rfl,RowsW.nil HZ0.out,fun j h=>absurd h (by simp)⟩,[],rfl,RowsW.nil HZ0.out,fun j h=>absurd h (by simp)⟩
 clear hN hr ha hmax hlen hok hT hsa hsb hb1 hx1 hx2 hs1;go_enter Tryz.func22,Tryz.ntmps22;go_upto_region 1 with fail
 clear hw1;go_wp2_with fail
 go_loopw [8,9,14] (fun a8 a9 i W=>∃(j:Nat) (vv tv:Value) (sp:Nat) (bp:Int) (sq:Nat) (bq:Int),j<=N/\i=.int .i64 (j:Int)/\vv=a8/\tv=a9/\Hid (Two12 (w.heap.size+2) ((l.map canT).take j) ((l.map canT).take j) vv tv W)/\Hid (W.heap[w.heap.size]? =some (.cells #[.int .u64 (sp:Int),.int .i64 bp] 24 (0,0))/\W.heap[w.heap.size+1]? =some (.cells #[.int .u64 (sq:Int),.int .i64 bq] 24 (0,0)))/\Hid (sp<18446744073709551616/\sq<18446744073709551616)/\Hid (Below w.heap.size w W)/\Hid (w.heap.size+2<=W.heap.size)) (fun _ _ i _=>N-(intOf i).toNat)
 case atStart=>exact⟨0,_,_,sa,ba,sb,bb,Nat.zero_le _,rfl,rfl,rfl,HTW0.out,HX0.out,HS0.out,HB0.out,HZ0.out⟩
 case round=>
  clear HTW0 HX0 HS0 HB0 HZ0
  rename World=>wo
  obtain⟨j,vv,tv,sp,bp,sq,bq,hj,rfl,rfl,rfl,HTW,HCX,HSB,HB,HN0⟩:=hrel;by_cases hlt:j<N
  case neg=>
   obtain rfl:j=N:=by omega
   have hfin:=HTW.out;rw[List.take_of_length_le (by rw[List.length_map,<-HNL.out.1];exact Nat.le_refl _)]at hfin;have HFIN:=iH hfin;clear hfin;go_wp2_with fail
   go_ret2;exact⟨_,_,rfl,HFIN.out,HB.out⟩
  have hlt':(j:Int)<(N:Int):=by omega
  have i0:(0:Int)<=(j:Int):=by omega
  have hjl:j<l.length:=by rw[<-HNL.out.1];exact hlt
  obtain rfl:=HA.out (by omega);obtain⟨cs,hcs,htv,hrg⟩:=HR.out j hjl;have HRG:=iH (rangeAt_later hrg HB.out);obtain⟨x,hx⟩:∃x,x=l[j]:=⟨_,rfl⟩
  have hxo:okR x=true:=by rw[hx];exact HOKS.out _ (List.getElem_mem hjl)
  have hnx:(l.map canT).take (j+1)=(l.map canT).take j++[canT x]:=by
   have hjm:j<(l.map canT).length:=by rw[List.length_map];exact hjl
   rw[List.take_succ_eq_append_getElem hjm,List.getElem_map,hx]
  rw[<-hx]at htv;obtain⟨xk,xn,xt,xa,xl,xc,xd,xm,xe,hsh⟩:=tr_shape htv;obtain rfl:=Value.agg.inj hsh;have HOK:=iH (okR_val hxo (trV_rng _ _ htv));have HTV:=iH htv;have HNX:=iH hnx;have HLJ:Hid (((l.map canT).take j).length<=5000):=by show _<=_;rw[List.length_take];have:=HNL.out;omega
  have HLJ2:=HLJ;have HLT:=iH hlt;clear hlt hjl hcs htv hrg hx hxo hnx hsh;by_cases hpar:j % 2=1
  case pos=>
   have hp2:((j:Int)) % 2=1:=by omega
   go_upto_region 6 with(first
    |(refine ld_tr (by rfl) _ rfl b (oo+j*5) rfl (trC xk xn xt (.slice xa xl xc) (.slice xd xm xe)) HRG.out rfl ?_)
    |(refine st_agg rfl 28 _ _ rfl wo.heap.size (trC xk xn xt (.slice xa xl xc) (.slice xd xm xe)) rfl rfl 28 (trC 0 0 ⟨#[]⟩ (.slice none 0 0) (.slice none 0 0)) (heap_alloc_last _ _) tr_size12 rfl (by simp[Value.oneCell']) ?_;intro w8 h8 k8))
   have hb8:Below wo.heap.size wo w8:=(Below.newly' _ _).trans (k8.below (Nat.le_refl _));obtain⟨D,hD⟩:∃D,D=wo.heap.size:=⟨_,rfl⟩
   have HDN:Hid (vv.ownBlock≠some D/\tv.ownBlock≠some D):=⟨fun e=>by have:=HTW.out.lt1 e;omega,fun e=>by have:=HTW.out.lt2 e;omega⟩
   have HDG:Hid (w.heap.size+2<=D):=(by show _<=_;rw[hD];exact HN0.out)
   rw[<-hD]at h8 ⊢;have HD0:=iH h8;replace HTW:=iH (HTW.out.later hb8);replace HB:=iH (tW HB.out hb8);have HC0:=iH (And.intro (kW hb8 HCX.out.1) (kW hb8 HCX.out.2));replace HN0:=iH (Nat.le_trans HN0.out hb8.size);clear hb8 hD h8 k8 HRG HCX;go_upto_region 8 with(first
    |(refine ld_if rfl 24 _ rfl (w.heap.size+1) rfl 24 _ _ _ HC0.out.2 Tryz.underlying24 rfl conf_size12 ?_)
    |(refine ld_if rfl 24 _ rfl w.heap.size rfl 24 _ _ _ HC0.out.1 Tryz.underlying24 rfl conf_size12 ?_)
    |(refine st_agg rfl 24 _ _ rfl w.heap.size #[.int .u64 (sq:Int),.int .i64 bq] rfl rfl 24 _ HC0.out.1 conf_size12 rfl (by simp[Value.oneCell']) ?_;intro wp hp kp;have HPX:=iH (kp.other HC0.out.2 (by omega));have HP1:=iH hp;have HKP:=iH kp;clear hp kp)
    |(refine st_agg rfl 24 _ _ rfl (w.heap.size+1) #[.int .u64 (sp:Int),.int .i64 bp] rfl rfl 24 _ HPX.out conf_size12 rfl (by simp[Value.oneCell']) ?_;intro w9 hq kq;have HP2:=iH (kq.other HP1.out (by omega));have HP3:=iH hq;have HKQ:=iH kq;clear hq kq))
   have HD:=iH (HKQ.out.other (HKP.out.other HD0.out (by have:=HDG.out;omega)) (by have:=HDG.out;omega));replace HTW:=iH ((HTW.out.only HKP.out (by omega)).only HKQ.out (by omega));replace HB:=iH ((HB.out.trans (HKP.out.below (Nat.le_refl _))).trans (HKQ.out.below (by omega)));replace HN0:=iH (Nat.le_trans (Nat.le_trans HN0.out HKP.out.by_.size) HKQ.out.by_.size);have HCX:=iH (And.intro HP2.out HP3.out);clear HC0 HPX HP1 HKP HKQ HD0 HP2 HP3;have HCF:Hid (∀V,Below (w.heap.size+2) w9 V->V.heap[w.heap.size]? =some (.cells #[.int .u64 (sq:Int),.int .i64 bq] 24 (0,0))):=fun V hb=>(hb.block _ (by omega)).trans HCX.out.1
   have HCG:Hid (∀V,Below (w.heap.size+2) w9 V->V.heap[w.heap.size+1]? =some (.cells #[.int .u64 (sp:Int),.int .i64 bp] 24 (0,0))):=fun V hb=>(hb.block _ (by omega)).trans HCX.out.2
   have HOF:Hid (∀W,Below (w.heap.size+2) w9 W->Calls Tryz.prog 11 #[.agg #[.int .u64 (sq:Int),.int .i64 bq],.agg (trC xk xn xt (.slice xa xl xc) (.slice xd xm xe))] W fun e w'=>∃y,e=.returned (.agg (celC y))/\VAt (fun g=>W.heap.size<=g) w' (canT x) y/\Below W.heap.size W w'):=fun W hb=>by
    have hbw:=HB.out.trans (hb.mono (by omega));have h:=lw_of sq bq x _ W HSB.out.2 (HTV.out.later hbw) HOK.out.1 HOK.out.2.1 (Nat.le_trans HOK.out.2.2.1 (by decide)) (HT0.out W hbw);rw[HOK.out.2.2.2.2.1]at h;exact h
   have HCN:Hid (∀W,Below (w.heap.size+2) w9 W->Calls Tryz.prog 12 #[.agg (trC xk xn xt (.slice xa xl xc) (.slice xd xm xe))] W fun e w'=>∃c,e=.returned (.agg c)/\c.size=5/\TrS (fun g=>W.heap.size<=g) w' (canT x) (.agg c)/\Below W.heap.size W w'):=fun W hb=>by
    obtain⟨k1,k2,k3⟩:=chkT_ok.1 HOK.out.2.2.2.1;exact rf_Canon x _ W (HTV.out.later (HB.out.trans (hb.mono (by omega)))) k1 k2 k3 HOK.out.2.1
   have HCB:Hid (ValB (canT x)):=HOK.out.2.2.2.2.2;have HW:Hid (Below (w.heap.size+2) w9 w9.drew):=(drawn_below w9).mono HN0.out;replace HTW:=iH (HTW.out.later (drawn_below w9));replace HD:=iH (((drawn_below w9).block _ (gZ HD.out)).trans HD.out);replace HN0:=iH (Nat.le_trans HN0.out (drawn_below w9).size);clear HCX;refine wp_region_T (S:=(fun V=>V.heap[w.heap.size]? =some (.cells #[.int .u64 (sq:Int),.int .i64 bq] 24 (0,0))/\V.heap[D]? =some (.cells (trC xk xn xt (.slice xa xl xc) (.slice xd xm xe)) 28 (0,0)))) [] (by kernel_rfl) (by exact⟨HCF.out _ HW.out,HD.out⟩) (fun hHeld=> ?_);refine tkL 0 24 (h:=?_);refine tyL 1 25 (hy:=yieldsIf_load_row (by rfl) 24 _ rfl w.heap.size rfl #[.int .u64 (sq:Int),.int .i64 bq] 24 (0,0) _ (fun w hw=>hw.1) Tryz.underlying24 rfl (by exact conf_size12)) (h:=?_);(try simp only[pq]);refine tyL 2 26 (hy:=yieldsIf_load_row (by rfl) 28 _ rfl D rfl (trC xk xn xt (.slice xa xl xc) (.slice xd xm xe)) 28 (0,0) _ (fun w hw=>hw.2) Tryz.underlying28 rfl (by exact tr_size12)) (h:=?_);refine tkL 6 30 (h:=?_);(try simp only[pq]);refine tyL 7 31 (hy:=yieldsIf_load_row (by rfl) 28 _ rfl D rfl (trC xk xn xt (.slice xa xl xc) (.slice xd xm xe)) 28 (0,0) _ (fun w hw=>hw.2) Tryz.underlying28 rfl (by exact tr_size12)) (h:=?_);(try simp only[pq]);refine tkO 3 (some 27) (h:=fun K hK=> ?_);go_simp;go_at_call 11;(with_reducible refine(HOF.out _ (by exact HW.out)).mono ?_);rintro r wa ⟨y,rfl,hy,hb⟩;have HY:=iH (hy.weak fun g hg=>HTW.out.fresh HN0.out hg);replace HTW:=iH (HTW.out.later hb);replace HD:=iH (kW hb HD.out);replace HW:=iH (HW.out.trans (hb.mono HN0.out));replace HN0:=iH (Nat.le_trans HN0.out hb.size);clear hb hy;dsimp only;refine hK.out _ _ (by exact⟨HCF.out _ HW.out,HD.out⟩) (fun hHeld=> ?_);clear hK K;(try simp only[pq]);refine tkO 4 (some 28) (h:=fun K hK=> ?_);rw[if_pos (by rfl)];refine bs_wp 52 35 _ rfl (celC y) 4 (.agg #[.int .i64 0,.int .i64 0,.string ⟨#[]⟩,.pointer none]) rfl rfl (by decide) (by decide) Tryz.underlying52 vl_info13 ?_
   intro wb hxb hb _;have HXB:=iH hxb;replace HY:=iH (HY.out.later hb);replace HTW:=iH (HTW.out.later hb);replace HD:=iH (kW hb HD.out);replace HW:=iH (HW.out.trans (hb.mono HN0.out));replace HN0:=iH (Nat.le_trans HN0.out hb.size);clear hb hxb;refine hK.out _ _ (by exact⟨HCF.out _ HW.out,HD.out⟩) (fun hHeld=> ?_);clear hK K;(try simp only[pq]);refine tkO 5 (some 29) (h:=fun K hK=> ?_);rw[if_pos (by rfl)];refine two12_v _ _ rfl rfl HTW.out HN0.out HLJ.out wa.heap.size _ rfl HXB.out HCB.out HY.out ?_;intro vs' wc hw2 hb hg ho;replace HTW:=iH hw2;have HD2:=iH ((hg.block D (gZ HD.out) (fun e=>HDN.out.1 e.symm)).trans HD.out);replace HDN:Hid (vs'.ownBlock≠some D/\tv.ownBlock≠some D):=⟨fun e=>by rcases ho with h|⟨g,h,hl⟩<;>first|exact HDN.out.1 (h.symm.trans e)|(rw[h]at e;obtain rfl:=Option.some.inj e;have:=(gZ HD.out);omega),HDN.out.2⟩
   replace HD:=HD2;clear HD2;replace HN0:=iH (Nat.le_trans HN0.out hb.size);replace HW:=iH (HW.out.trans hb);clear hb hg ho hw2 HXB HY;refine hK.out _ _ (by exact⟨HCF.out _ HW.out,HD.out⟩) (fun hHeld=> ?_);clear hK K;(try simp only[pq]);refine tkO 8 (some 32) (h:=fun K hK=> ?_);go_simp;go_at_call 12;(with_reducible refine(HCN.out _ (by exact HW.out)).mono ?_);rintro r wd ⟨c9,rfl,hc5,hc,hb⟩;obtain⟨ck,cn,ct,c1,c2,c3,c4,c6,c7,rfl⟩:=hc.trv.cells;have HY:=iH (hc.weak fun g hg=>HTW.out.fresh HN0.out hg);replace HTW:=iH (HTW.out.later hb);replace HD:=iH (kW hb HD.out);replace HW:=iH (HW.out.trans (hb.mono HN0.out));replace HN0:=iH (Nat.le_trans HN0.out hb.size);clear hb hc hc5;dsimp only;refine hK.out _ _ (by exact⟨HCF.out _ HW.out,HD.out⟩) (fun hHeld=> ?_);clear hK K;(try simp only[pq]);refine tkO 9 (some 33) (h:=fun K hK=> ?_);rw[if_pos (by rfl)];refine bs_wp 26 28 _ rfl (trC ck cn ct (.slice c1 c2 c3) (.slice c4 c6 c7)) 5 (.agg (trC 0 0 ⟨#[]⟩ (.slice none 0 0) (.slice none 0 0))) rfl rfl (by decide) (by decide) Tryz.underlying26 trl_info ?_;intro we hxe hb _;have HXE:=iH hxe;replace HY:=iH (HY.out.later hb);replace HTW:=iH (HTW.out.later hb);replace HD:=iH (kW hb HD.out);replace HW:=iH (HW.out.trans (hb.mono HN0.out));replace HN0:=iH (Nat.le_trans HN0.out hb.size);clear hb hxe;refine hK.out _ _ (by exact⟨HCF.out _ HW.out,HD.out⟩) (fun hHeld=> ?_);clear hK K;(try simp only[pq]);refine tkO 10 (some 34) (h:=fun K hK=> ?_);rw[if_pos (by rfl)];refine two12_t _ _ rfl rfl HTW.out HN0.out HLJ2.out wd.heap.size _ rfl HXE.out rfl (by simp[Value.oneCell']) HY.out ?_;intro ts' wf hw2 hb hg ho;replace HTW:=iH hw2;replace HD:=iH ((hg.block D (gZ HD.out) (fun e=>HDN.out.2 e.symm)).trans HD.out);replace HN0:=iH (Nat.le_trans HN0.out hb.size);replace HW:=iH (HW.out.trans hb);clear hb hg ho hw2 HXE HY;refine hK.out _ _ (by exact⟨HCF.out _ HW.out,HD.out⟩) (fun hHeld=> ?_);clear hK K;(try simp only[pq]);refine tkL 11 8 (h:=?_);refine tkL 12 9 (h:=?_);(try simp only[pq])
   refine wpAnyT_done (by kernel_rfl) ?_ _;clear hHeld;have HFI:=iH (And.intro (HCF.out _ HW.out) (HCG.out _ HW.out));have HBF:=iH (HB.out.trans (HW.out.mono (by omega)));go_wp2_with fail
   go_roundw
   case rel=>
    have h1:=HTW.out;rw[<-HNX.out]at h1;exact⟨j+1,_,_,sq,bq,sp,bp,by have:=HLT.out;omega,by go_num,rfl,rfl,h1,HFI.out,⟨HSB.out.2,HSB.out.1⟩,HBF.out,HN0.out⟩
   case measure=>have:=HLT.out;simp[intOf];omega
  have hp2:¬((j:Int)) % 2=1:=by omega
  go_upto_region 6 with(first
   |(refine ld_tr (by rfl) _ rfl b (oo+j*5) rfl (trC xk xn xt (.slice xa xl xc) (.slice xd xm xe)) HRG.out rfl ?_)
   |(refine st_agg rfl 28 _ _ rfl wo.heap.size (trC xk xn xt (.slice xa xl xc) (.slice xd xm xe)) rfl rfl 28 (trC 0 0 ⟨#[]⟩ (.slice none 0 0) (.slice none 0 0)) (heap_alloc_last _ _) tr_size12 rfl (by simp[Value.oneCell']) ?_;intro w8 h8 k8))
  have hb8:Below wo.heap.size wo w8:=(Below.newly' _ _).trans (k8.below (Nat.le_refl _));obtain⟨D,hD⟩:∃D,D=wo.heap.size:=⟨_,rfl⟩
  have HDN:Hid (vv.ownBlock≠some D/\tv.ownBlock≠some D):=⟨fun e=>by have:=HTW.out.lt1 e;omega,fun e=>by have:=HTW.out.lt2 e;omega⟩
  have HDG:Hid (w.heap.size+2<=D):=(by show _<=_;rw[hD];exact HN0.out)
  rw[<-hD]at h8 ⊢;have HD0:=iH h8;replace HTW:=iH (HTW.out.later hb8);replace HB:=iH (tW HB.out hb8);have HC0:=iH (And.intro (kW hb8 HCX.out.1) (kW hb8 HCX.out.2));replace HN0:=iH (Nat.le_trans HN0.out hb8.size);clear hb8 hD h8 k8 HRG HCX;have HCX:=HC0;have HD:=HD0;obtain⟨w9,hw9⟩:∃w9,w9=w8:=⟨_,rfl⟩
  rw[<-hw9]at HCX HD HTW HB HN0 ⊢;clear hw9 HC0 HD0;go_upto_region 8 with fail
  have HCF:Hid (∀V,Below (w.heap.size+2) w9 V->V.heap[w.heap.size]? =some (.cells #[.int .u64 (sp:Int),.int .i64 bp] 24 (0,0))):=fun V hb=>(hb.block _ (by omega)).trans HCX.out.1
  have HCG:Hid (∀V,Below (w.heap.size+2) w9 V->V.heap[w.heap.size+1]? =some (.cells #[.int .u64 (sq:Int),.int .i64 bq] 24 (0,0))):=fun V hb=>(hb.block _ (by omega)).trans HCX.out.2
  have HOF:Hid (∀W,Below (w.heap.size+2) w9 W->Calls Tryz.prog 11 #[.agg #[.int .u64 (sp:Int),.int .i64 bp],.agg (trC xk xn xt (.slice xa xl xc) (.slice xd xm xe))] W fun e w'=>∃y,e=.returned (.agg (celC y))/\VAt (fun g=>W.heap.size<=g) w' (canT x) y/\Below W.heap.size W w'):=fun W hb=>by
   have hbw:=HB.out.trans (hb.mono (by omega));have h:=lw_of sp bp x _ W HSB.out.1 (HTV.out.later hbw) HOK.out.1 HOK.out.2.1 (Nat.le_trans HOK.out.2.2.1 (by decide)) (HT0.out W hbw);rw[HOK.out.2.2.2.2.1]at h;exact h
  have HCN:Hid (∀W,Below (w.heap.size+2) w9 W->Calls Tryz.prog 12 #[.agg (trC xk xn xt (.slice xa xl xc) (.slice xd xm xe))] W fun e w'=>∃c,e=.returned (.agg c)/\c.size=5/\TrS (fun g=>W.heap.size<=g) w' (canT x) (.agg c)/\Below W.heap.size W w'):=fun W hb=>by
   obtain⟨k1,k2,k3⟩:=chkT_ok.1 HOK.out.2.2.2.1;exact rf_Canon x _ W (HTV.out.later (HB.out.trans (hb.mono (by omega)))) k1 k2 k3 HOK.out.2.1
  have HCB:Hid (ValB (canT x)):=HOK.out.2.2.2.2.2;have HW:Hid (Below (w.heap.size+2) w9 w9.drew):=(drawn_below w9).mono HN0.out;replace HTW:=iH (HTW.out.later (drawn_below w9));replace HD:=iH (((drawn_below w9).block _ (gZ HD.out)).trans HD.out);replace HN0:=iH (Nat.le_trans HN0.out (drawn_below w9).size);clear HCX;refine wp_region_T (S:=(fun V=>V.heap[w.heap.size]? =some (.cells #[.int .u64 (sp:Int),.int .i64 bp] 24 (0,0))/\V.heap[D]? =some (.cells (trC xk xn xt (.slice xa xl xc) (.slice xd xm xe)) 28 (0,0)))) [] (by kernel_rfl) (by exact⟨HCF.out _ HW.out,HD.out⟩) (fun hHeld=> ?_);refine tkL 0 24 (h:=?_);refine tyL 1 25 (hy:=yieldsIf_load_row (by rfl) 24 _ rfl w.heap.size rfl #[.int .u64 (sp:Int),.int .i64 bp] 24 (0,0) _ (fun w hw=>hw.1) Tryz.underlying24 rfl (by exact conf_size12)) (h:=?_);(try simp only[pq]);refine tyL 2 26 (hy:=yieldsIf_load_row (by rfl) 28 _ rfl D rfl (trC xk xn xt (.slice xa xl xc) (.slice xd xm xe)) 28 (0,0) _ (fun w hw=>hw.2) Tryz.underlying28 rfl (by exact tr_size12)) (h:=?_);refine tkL 6 30 (h:=?_);(try simp only[pq]);refine tyL 7 31 (hy:=yieldsIf_load_row (by rfl) 28 _ rfl D rfl (trC xk xn xt (.slice xa xl xc) (.slice xd xm xe)) 28 (0,0) _ (fun w hw=>hw.2) Tryz.underlying28 rfl (by exact tr_size12)) (h:=?_);(try simp only[pq]);refine tkO 3 (some 27) (h:=fun K hK=> ?_);go_simp;go_at_call 11;(with_reducible refine(HOF.out _ (by exact HW.out)).mono ?_);rintro r wa ⟨y,rfl,hy,hb⟩;have HY:=iH (hy.weak fun g hg=>HTW.out.fresh HN0.out hg);replace HTW:=iH (HTW.out.later hb);replace HD:=iH (kW hb HD.out);replace HW:=iH (HW.out.trans (hb.mono HN0.out));replace HN0:=iH (Nat.le_trans HN0.out hb.size);clear hb hy;dsimp only;refine hK.out _ _ (by exact⟨HCF.out _ HW.out,HD.out⟩) (fun hHeld=> ?_);clear hK K;(try simp only[pq]);refine tkO 4 (some 28) (h:=fun K hK=> ?_);rw[if_pos (by rfl)];refine bs_wp 52 35 _ rfl (celC y) 4 (.agg #[.int .i64 0,.int .i64 0,.string ⟨#[]⟩,.pointer none]) rfl rfl (by decide) (by decide) Tryz.underlying52 vl_info13 ?_
  intro wb hxb hb _;have HXB:=iH hxb;replace HY:=iH (HY.out.later hb);replace HTW:=iH (HTW.out.later hb);replace HD:=iH (kW hb HD.out);replace HW:=iH (HW.out.trans (hb.mono HN0.out));replace HN0:=iH (Nat.le_trans HN0.out hb.size);clear hb hxb;refine hK.out _ _ (by exact⟨HCF.out _ HW.out,HD.out⟩) (fun hHeld=> ?_);clear hK K;(try simp only[pq]);refine tkO 5 (some 29) (h:=fun K hK=> ?_);rw[if_pos (by rfl)];refine two12_v _ _ rfl rfl HTW.out HN0.out HLJ.out wa.heap.size _ rfl HXB.out HCB.out HY.out ?_;intro vs' wc hw2 hb hg ho;replace HTW:=iH hw2;have HD2:=iH ((hg.block D (gZ HD.out) (fun e=>HDN.out.1 e.symm)).trans HD.out);replace HDN:Hid (vs'.ownBlock≠some D/\tv.ownBlock≠some D):=⟨fun e=>by rcases ho with h|⟨g,h,hl⟩<;>first|exact HDN.out.1 (h.symm.trans e)|(rw[h]at e;obtain rfl:=Option.some.inj e;have:=(gZ HD.out);omega),HDN.out.2⟩
  replace HD:=HD2;clear HD2;replace HN0:=iH (Nat.le_trans HN0.out hb.size);replace HW:=iH (HW.out.trans hb);clear hb hg ho hw2 HXB HY;refine hK.out _ _ (by exact⟨HCF.out _ HW.out,HD.out⟩) (fun hHeld=> ?_);clear hK K;(try simp only[pq]);refine tkO 8 (some 32) (h:=fun K hK=> ?_);go_simp;go_at_call 12;(with_reducible refine(HCN.out _ (by exact HW.out)).mono ?_);rintro r wd ⟨c9,rfl,hc5,hc,hb⟩;obtain⟨ck,cn,ct,c1,c2,c3,c4,c6,c7,rfl⟩:=hc.trv.cells;have HY:=iH (hc.weak fun g hg=>HTW.out.fresh HN0.out hg);replace HTW:=iH (HTW.out.later hb);replace HD:=iH (kW hb HD.out);replace HW:=iH (HW.out.trans (hb.mono HN0.out));replace HN0:=iH (Nat.le_trans HN0.out hb.size);clear hb hc hc5;dsimp only;refine hK.out _ _ (by exact⟨HCF.out _ HW.out,HD.out⟩) (fun hHeld=> ?_);clear hK K;(try simp only[pq]);refine tkO 9 (some 33) (h:=fun K hK=> ?_);rw[if_pos (by rfl)];refine bs_wp 26 28 _ rfl (trC ck cn ct (.slice c1 c2 c3) (.slice c4 c6 c7)) 5 (.agg (trC 0 0 ⟨#[]⟩ (.slice none 0 0) (.slice none 0 0))) rfl rfl (by decide) (by decide) Tryz.underlying26 trl_info ?_;intro we hxe hb _;have HXE:=iH hxe;replace HY:=iH (HY.out.later hb);replace HTW:=iH (HTW.out.later hb);replace HD:=iH (kW hb HD.out);replace HW:=iH (HW.out.trans (hb.mono HN0.out));replace HN0:=iH (Nat.le_trans HN0.out hb.size);clear hb hxe;refine hK.out _ _ (by exact⟨HCF.out _ HW.out,HD.out⟩) (fun hHeld=> ?_);clear hK K;(try simp only[pq]);refine tkO 10 (some 34) (h:=fun K hK=> ?_);rw[if_pos (by rfl)];refine two12_t _ _ rfl rfl HTW.out HN0.out HLJ2.out wd.heap.size _ rfl HXE.out rfl (by simp[Value.oneCell']) HY.out ?_;intro ts' wf hw2 hb hg ho;replace HTW:=iH hw2;replace HD:=iH ((hg.block D (gZ HD.out) (fun e=>HDN.out.2 e.symm)).trans HD.out);replace HN0:=iH (Nat.le_trans HN0.out hb.size);replace HW:=iH (HW.out.trans hb);clear hb hg ho hw2 HXE HY;refine hK.out _ _ (by exact⟨HCF.out _ HW.out,HD.out⟩) (fun hHeld=> ?_);clear hK K;(try simp only[pq]);refine tkL 11 8 (h:=?_);refine tkL 12 9 (h:=?_);(try simp only[pq])
  refine wpAnyT_done (by kernel_rfl) ?_ _;clear hHeld;have HFI:=iH (And.intro (HCF.out _ HW.out) (HCG.out _ HW.out));have HBF:=iH (HB.out.trans (HW.out.mono (by omega)));go_wp2_with fail
  go_roundw
  case rel=>
   have h1:=HTW.out;rw[<-HNX.out]at h1;exact⟨j+1,_,_,sp,bp,sq,bq,by have:=HLT.out;omega,by go_num,rfl,rfl,h1,HFI.out,⟨HSB.out.1,HSB.out.2⟩,HBF.out,HN0.out⟩
  case measure=>have:=HLT.out;simp[intOf];omega
end Go.Proofs.YtengibnpebfblaaGreatDoor
namespace Go.Proofs.YtengibnpebfblaaGreatDoor
open Go.RowKit Go.ChangeShapes Go.WideShapes Go.ChangeAt
theorem trees_open12 {H:Type} {enc:TypeId×Value->H} {W:World} {sp:Nat->Bool} {held:Bool} {r:Reach} {b0 base:Nat} {v:Value} {d:DataW H} {ps:List MemPlace}
  (hval:Value.okWide Tryz.prog W r b0 26 v) (hd:DataW.Trod enc Tryz.prog W base sp held 26 v d ps):∃l,TrLs W v l:=by
 obtain⟨l,a,cap,b,o,h1,h2,h3,h4⟩:=list_open (c:=5) nullT (by decide) (R:=fun y p=>∃cs:Array Value,cs.size=5/\TrV W y (.agg cs)/\∀j u,cs.toList[j]? =some u->W.cell? (p.add j)=some u) Tryz.underlying26 (by kernel_rfl) hval hd fun n cs x a hc h=>by
  obtain⟨_,hl,hat⟩:=World.cells?_some hc;obtain⟨y,hy⟩:=tr_trod _ x.1 (Nat.le_refl _) _ _ _ h hl;refine⟨y,cs.toArray,by simpa using hl,hy,fun j u hu=> ?_⟩;have hj:j<cs.length:=by have:=(List.getElem?_eq_some_iff.1 hu).1;simpa using this
  have h5:=hat j (by omega);rw[h5];simpa using hu
 refine⟨l,a,cap,b,o,h1,h4,h2,fun j hj=> ?_⟩;obtain⟨cs,e,hv,hc⟩:=h3 j hj;refine⟨cs,e,hv,fun i u hu=> ?_⟩;have h6:=hc i u hu;rw[show(⟨b,o+j*5,none⟩:Addr).add i=⟨b,o+j*5+i,none⟩ by unfold Addr.add;split<;>simp_all]at h6;exact h6
theorem oks_of {l:List Tr} (h:(l.all okR&&decide (l.length<=12))=true):(∀x∈l,okR x=true)/\l.length<=12:=by
 have h1:=Bool.and_eq_true_iff.1 h;exact⟨List.all_eq_true.1 h1.1,of_decide_eq_true h1.2⟩
theorem trls_rng {W:World} {v:Value} {l:List Tr} (h:TrLs W v l):∀x∈l,RngT x:=fun x hx=>by
 obtain⟨a,c,b,o,_,_,_,h4⟩:=h;obtain⟨j,hj,rfl⟩:=List.mem_iff_getElem.1 hx;obtain⟨cs,_,h5,_⟩:=h4 j hj;exact trV_rng _ _ h5
theorem can_vals {W:World} {v:Value} {l:List Tr} (h:TrLs W v l) (ho:∀x∈l,okR x=true):∀y∈l.map canT,ValB y:=fun y hy=>by
 obtain⟨x,hx,rfl⟩:=List.mem_map.1 hy;exact(okR_val (ho x hx) (trls_rng h x hx)).2.2.2.2.2
theorem rowT_ls {B:Nat} {v:Value} {css:List (Array Value)} {l:List Tr} {W W':World} (h:RowsW B 28 5 v css W') (ht:RowT W l css) (hb:Below W.heap.size W W') (hm:l.length<=200000):TrLs W' v l:=trLs_rows h ht.1.symm hm fun j h1 h2=>(ht.2 j h1 h2).later hb
end Go.Proofs.YtengibnpebfblaaGreatDoor
