import Derived.Test.YtengibnpebfblaaGreatDoorB12
set_option maxRecDepth 1000000
set_option maxHeartbeats 8000000
set_option linter.unusedSimpArgs false
namespace Go.Proofs.YtengibnpebfblaaGreatDoor
open Go.RowKit Go.Shelf
attribute [local go_sem] Oper.semAt_some
theorem mid_wide {ops:Array Oper} {rest:List Oper} {o:Oper} {a:Act} {w:World} {Q:Exit->Act->World->Prop} {n:Nat} (hgd:o.guard=none) (ty:TypeId) (x:Operand) (ho:o.op=.load ty x)
  (b k:Nat) (hx:a.eval x=.pointer (some ⟨b,k,none⟩)) (cs:List Value) (d:TypeDesc) (hc:w.rangeAt b k cs)
  (hu:Tryz.prog.underlying ty=some d) (hd:d.isRow=true) (hi:(Tryz.prog.info? ty).map (·.size)=some cs.length)
  (h:wpListIn Fence.wide n Tryz.prog ops Q rest (a.put o.dst (.agg cs.toArray)) w):wpListIn Fence.wide n Tryz.prog ops Q (o::rest) a w:=
 wpListIn_plain hgd fun _ hK=>wp_in_wide (fun c' hc=>by rw[ho]at hc;cases hc) (wp_load_mid ty x ho b k hx cs d hc hu hd hi (hK _ _ h))
theorem st_wide {ops:Array Oper} {rest:List Oper} {o:Oper} {a:Act} {w:World} {Q:Exit->Act->World->Prop} {n:Nat} (hgd:o.guard=none) (ty:TypeId) (x y:Operand) (ho:o.op=.store ty x y)
  (X:Nat) (c':Array Value) (hx:a.eval x=.pointer (some ⟨X,0,none⟩)) (hy:a.eval y=.agg c') (T:TypeId) (c:Array Value) (hB:w.heap[X]? =some (.cells c T (0,0)))
  (hi:(Tryz.prog.info? ty).map (·.size)=some c'.size) (hs:c.size=c'.size) (h1:c'.all (·.oneCell')=true)
  (h:∀w',w'.heap[X]? =some (.cells c' T (0,0))->Only X w w'->wpListIn Fence.wide n Tryz.prog ops Q rest (a.put o.dst undef) w'):wpListIn Fence.wide n Tryz.prog ops Q (o::rest) a w:=
 wpListIn_plain hgd fun _ hK=>wp_in_wide (fun c' hc=>by rw[ho]at hc;cases hc) (st_agg_wp ty x y ho X c' hx hy T c hB hi hs h1 fun w' h1 h2=>hK _ _ (h w' h1 h2))
def StepIn (X Y:Nat) (K Kx:List Cel->World->Prop) (LST:List Cel) (n₀:Nat):Prop:=∀m pre x V,K pre V->pre++[x]<+:LST->n₀<=V.heap.size->
 CallsIn Fence.wide m Tryz.prog 106 #[.agg (celC x),.pointer (some ⟨X,0,none⟩),.pointer (some ⟨Y,0,none⟩)] V fun e V'=>
  (e=.returned (.bool true)/\K (pre++[x]) V'/\Below n₀ V V'/\TK 86 V V')\/(e=.returned (.bool false)/\Kx (pre++[x]) V')
def EachIn (X Y:Nat) (K Kx:List Cel->World->Prop) (LST:List Cel) (n₀ h:Nat):Prop:=∀m (p:Kid) pre W,NodeR (fun g=>g<n₀) W h p->K pre W->pre++p.l<+:LST->n₀<=W.heap.size->
 CallsIn Fence.wide m Tryz.prog 105 #[.agg (kidc h p).toArray,.func (.func 106) #[] #[.pointer (some ⟨X,0,none⟩),.pointer (some ⟨Y,0,none⟩)]] W fun e W'=>
  (e=.returned (.bool true)/\K (pre++p.l) W'/\Below n₀ W W'/\TK 86 W W')\/(e=.returned (.bool false)/\∃q,q<+:p.l/\Kx (pre++q) W')
theorem each_leaf {X Y n₀:Nat} {LST:List Cel} {K Kx:List Cel->World->Prop} (hstep:StepIn X Y K Kx LST n₀) (hK:∀pre A B,K pre A->Below A.heap.size A B->K pre B):EachIn X Y K Kx LST n₀ 0:=by
 intro m p pre W hp hk hlen hn;obtain⟨w1,hw1⟩:∃w1,W.alloc (.cells (kidc 0 p).toArray 86)=w1:=⟨_,rfl⟩
 obtain⟨hb1,hx1,hs1⟩:=nodes_new hw1;obtain⟨hpa,hpk,hp1,hp16,hph⟩:=hp;obtain⟨g,c,cur,fr,hpb,hcap,hS,hg,hcs⟩:=hph.pos hp1;have ca2:w1.cell? ⟨W.heap.size,2,none⟩=some (.slice none 0 0):=by rw[<-hpa];exact cell_in hx1 rfl
 have ca3:w1.cell? ⟨W.heap.size,3,none⟩=some (.slice (some ⟨g,0,none⟩) p.k c):=by rw[<-hpb];exact cell_in hx1 rfl
 obtain⟨n,hn'⟩:∃n,n=p.k:=⟨_,rfl⟩
 rw[<-hn']at ca3 hp16 hp1 hpk hcap;have HC:Hid (∀j (hj:j<p.l.length),W.rangeAt g (j*4) (enV p.l[j])):=fun j hj i v hv=>by
  have hi:i<4:=(List.getElem?_eq_some_iff.1 hv).1;refine cell_in hg (hcs _ v ?_);rw[en_at enV_len p.l j i p.l[j] (List.getElem?_eq_getElem hj) hi];exact hv
 have HS:Hid (g<n₀):=hS;have HK1:=iH (hK _ _ _ hk hb1);have HB1:=iH (hb1.mono hn);have HT1:Hid (TK 86 W w1):=TK.below hb1;have HP:=iH (And.intro hpk (And.intro hlen hn));have hn16:(n:Int)<=16:=by omega
 have HKA:=iH hK;clear hp1 hp16 hph hpb hcap hS hg hcs hpa hb1 hx1 hs1 hk hlen hn hpk hn';refine callsIn_of_wp Tryz.func105 rfl trivial ?_ rfl;simp only[Tryz.ntmps105,List.size_toArray,List.length_cons,List.length_nil,Nat.reduceAdd,Nat.reduceSub,Array.replicate_succ,Array.replicate_zero,List.push_toArray,List.append_toArray,List.nil_append,List.cons_append];gi_wp2
 gi_loopw [12] (fun iv wr=>iv=.int .i64 0/\w1=wr) (fun _ _=>0)
 case atStart=>exact⟨rfl,rfl⟩
 case round=>
  obtain⟨rfl,rfl⟩:=hrel;gi_wp2
  gi_loopw [24] (fun iv wr=>∃j:Nat,iv=.int .i64 (j:Int)/\j<=n/\Hid (K (pre++p.l.take j) wr)/\Hid (Below n₀ W wr)/\Hid (TK 86 W wr)) (fun iv _=>n-(intOf iv).toNat)
  case atStart=>exact⟨0,rfl,Nat.zero_le _,(by simpa using HK1),HB1,HT1⟩
  case round=>
   obtain⟨j,rfl,hj,HKJ,HBJ,HTJ⟩:=hrel;by_cases hjn:j<n
   ·have hpp:=HP.out
    have hjl:j<p.l.length:=by omega
    have HRG:=iH (fun i v hv=>(HBJ.out.cell (p:=⟨g,_+i,none⟩) HS.out).trans (HC.out j hjl i v hv));have HTK:=iH (List.take_succ_eq_append_getElem hjl);have hst:=fun(V:World) (hkv:K (pre++p.l.take j) V) (hnv:n₀<=V.heap.size)=>hstep (m-1) (pre++p.l.take j) p.l[j] V hkv (by rw[List.append_assoc,<-List.take_succ_eq_append_getElem hjl];exact((List.prefix_append_right_inj _).2 (List.take_prefix _ _)).trans hpp.2.1) hnv
    have HNW:Hid (n₀<=wr.heap.size):=Nat.le_trans hpp.2.2 HBJ.out.size;obtain⟨x,hx⟩:∃x,x=p.l[j]:=⟨_,rfl⟩
    rw[<-hx]at HRG hst HTK;have HRG2:Hid (wr.rangeAt g (j*4) (enV x)):=fun i v hv=>HRG.out i v hv
    have HST:=iH hst;have hjn':(j:Int)<n:=by omega
    clear hx hpp hst HRG;gi_wp2_with (first
     |(refine mid_wide rfl 35 _ rfl g (j*4) rfl (enV x) _ HRG2.out Tryz.underlying35 rfl val_size ?_)
     |(refine st_wide rfl 35 _ _ rfl wr.heap.size (celC x) rfl rfl 35 (celC zeroV) (heap_alloc_last _ _) val_size rfl (celC_one x) ?_;intro w5 h5 k5;have HB5:Hid (Below wr.heap.size wr w5):=(Below.newly' _ _).trans (k5.below (Nat.le_refl _));have HX5:=iH h5;clear h5 k5)
     |(refine ld_wide rfl 35 _ rfl wr.heap.size rfl 35 _ _ _ HX5.out Tryz.underlying35 rfl val_size ?_))
    refine⟨trivial,fun h=>absurd h (by simp[Fence.wide]),?_⟩;refine(HST.out w5 (HKA.out _ _ _ HKJ.out HB5.out) (Nat.le_trans HNW.out HB5.out.size)).mono ?_;rintro e W3 (⟨rfl,hk3,hb3,ht3⟩|⟨rfl,hx3⟩)
    ·have HK3:=iH hk3
     have HB3:=iH ((HBJ.out.trans (HB5.out.mono HNW.out)).trans hb3);have HT3:=iH ((HTJ.out.trans (TK.below HB5.out)).trans ht3);clear hk3 hb3 ht3;gi_wp2
     go_roundw
     case rel=>
      refine⟨j+1,by simp,by omega,?_,HB3,HT3⟩;rw[HTK.out,<-List.append_assoc];exact HK3
     case measure=>simp[intOf];omega
    ·have HX3:=iH hx3
     clear hx3;gi_wp2
     go_ret;refine .inr ⟨rfl,p.l.take j++[x],?_,by rw[<-List.append_assoc];exact HX3.out⟩;rw[<-HTK.out];exact List.take_prefix _ _
   ·have hpp:=HP.out
    have e:p.l.take j=p.l:=List.take_of_length_le (by omega);rw[e]at HKJ;clear hpp e;gi_wp2
    go_ret;exact .inl ⟨rfl,HKJ.out,HBJ.out,HTJ.out⟩
theorem each_inner {X Y n₀:Nat} {LST:List Cel} {K Kx:List Cel->World->Prop} (hK:∀pre A B,K pre A->Below A.heap.size A B->K pre B) (h:Nat) (ih:EachIn X Y K Kx LST n₀ h):EachIn X Y K Kx LST n₀ (h+1):=by
 intro m p pre W hp hk hlen hn;obtain⟨w1,hw1⟩:∃w1,W.alloc (.cells (kidc (h+1) p).toArray 86)=w1:=⟨_,rfl⟩
 obtain⟨hb1,hx1,hs1⟩:=nodes_new hw1;obtain⟨hpb,hp1,hp16,ks,hph,hkl,hl,hks⟩:=hp;obtain⟨g,c,cur,fr,hpa,hcap,hS,hg,hcs⟩:=hph.pos hp1;have ca2:w1.cell? ⟨W.heap.size,2,none⟩=some (.slice (some ⟨g,0,none⟩) p.k c):=by rw[<-hpa];exact cell_in hx1 rfl
 have HX1:=iH hx1;obtain⟨n,hn'⟩:∃n,n=p.k:=⟨_,rfl⟩
 rw[<-hn']at ca2 hp16 hp1 hkl hcap;have HC:Hid (∀j (hj:j<ks.length),W.rangeAt g (j*4) (kidc h ks[j])):=fun j hj=>en_range (h:=h) hg hcs hj
 have HS:Hid (g<n₀):=hS;have HK1:=iH (hK _ _ _ hk hb1);have HB1:=iH (hb1.mono hn);have HT1:Hid (TK 86 W w1):=TK.below hb1;have HP:=iH (And.intro hkl (And.intro hlen (And.intro hn (And.intro hl hpb))));have HKS:=iH hks;have HSZ:Hid (w1.heap.size=W.heap.size+1):=hs1;have hn16:(n:Int)<=16:=by omega
 have HKA:=iH hK;clear hp1 hp16 hph hcap hS hg hcs hpa hpb hb1 hx1 hs1 hk hlen hn hkl hn' hl hks;refine callsIn_of_wp Tryz.func105 rfl trivial ?_ rfl;simp only[Tryz.ntmps105,List.size_toArray,List.length_cons,List.length_nil,Nat.reduceAdd,Nat.reduceSub,Array.replicate_succ,Array.replicate_zero,List.push_toArray,List.append_toArray,List.nil_append,List.cons_append];gi_wp2
 gi_loopw [12] (fun iv wr=>∃j:Nat,iv=.int .i64 (j:Int)/\j<=n/\Hid (K (pre++catK (ks.take j)) wr)/\Hid (Below n₀ W wr)/\Hid (TK 86 W wr)/\Hid (wr.heap[W.heap.size]? =some (.cells (kidc (h+1) p).toArray 86 (0,0)))) (fun iv _=>n-(intOf iv).toNat)
 case atStart=>exact⟨0,rfl,Nat.zero_le _,(by simpa[catK]using HK1),HB1,HT1,HX1⟩
 case round=>
  clear HK1 HB1 HT1 HX1;obtain⟨j,rfl,hj,HKJ,HBJ,HTJ,HXJ⟩:=hrel;by_cases hjn:j<n
  ·have hpp:=HP.out
   have hjl:j<ks.length:=by omega
   have HRG:=iH (fun j v hv=>(HBJ.out.cell (p:=⟨g,_+j,none⟩) HS.out).trans (HC.out _ hjl j v hv));have HSUM:=iH (cat_take_succ hjl);have hle:=cat_take_le (ks:=ks) (j+1);have hjn':(j:Int)<n:=by omega
   have HND:=iH ((HKS.out _ (List.getElem_mem hjl)).2.low HBJ.out);have hcat:catK (ks.take (j+1))=catK (ks.take j)++ks[j].l:=by rw[List.take_succ_eq_append_getElem hjl,catK_app,catK_one]
   have HCAT:=iH hcat;have HPRE:Hid (catK (ks.take (j+1))<+:p.l):=by
    show _<+:_;rw[hpp.2.2.2.1];refine⟨catK (ks.drop (j+1)),?_⟩;rw[<-catK_app,List.take_append_drop]
   obtain⟨y,hy⟩:∃y,y=ks[j]:=⟨_,rfl⟩
   rw[<-hy]at HRG HSUM HND HCAT;have HLY:Hid (pre++catK (ks.take j)++y.l<+:LST):=by
    show _<+:_;rw[List.append_assoc,<-HCAT.out];exact((List.prefix_append_right_inj _).2 HPRE.out).trans hpp.2.1
   have HYO:=iH (kid_one h y);have HRG2:Hid (wr.rangeAt g (j*4) (kidc h y)):=fun i v hv=>HRG.out i v hv
   have HNW:Hid (n₀<=wr.heap.size):=Nat.le_trans hpp.2.2.1 HBJ.out.size;clear hpp hle hcat hy HRG;gi_wp2_with (first
    |(refine mid_wide rfl 86 _ rfl g (j*4) rfl (kidc h y) _ HRG2.out Tryz.underlying86 rfl rnode_size ?_)
    |(refine st_wide rfl 86 _ _ rfl wr.heap.size (kidc h y).toArray rfl rfl 86 zeroR (heap_alloc_last _ _) rnode_size rfl HYO.out ?_;intro w5 h5 k5;have HB5:Hid (Below wr.heap.size wr w5):=(Below.newly' _ _).trans (k5.below (Nat.le_refl _));have HX5:=iH h5;clear h5 k5)
    |(refine ld_wide rfl 86 _ rfl wr.heap.size rfl 86 _ _ _ HX5.out Tryz.underlying86 rfl rnode_size ?_))
   refine⟨trivial,fun h=>absurd h (by simp[Fence.wide]),?_⟩;have hk5:=HKA.out _ _ _ HKJ.out HB5.out;have ht5:TK 86 wr w5:=TK.below HB5.out;refine(ih (m-1) y (pre++catK (ks.take j)) w5 (HND.out.low (HB5.out.mono HNW.out)) hk5 HLY.out (Nat.le_trans HNW.out HB5.out.size)).mono ?_;rintro e W3 (⟨rfl,hk3,hb3,ht3⟩|⟨rfl,q,hq,hx3⟩)
   ·have HK3:=iH hk3
    have HB3:=iH ((HBJ.out.trans (HB5.out.mono HNW.out)).trans hb3);have HT3:=iH ((HTJ.out.trans ht5).trans ht3);have HX3:=iH (ht3 _ _ _ (ht5 _ _ _ HXJ.out));clear hk3 hb3 ht3 hk5 ht5;gi_wp2
    go_roundw
    case rel=>
     refine⟨j+1,by simp,by omega,?_,HB3,HT3,HX3⟩;rw[HCAT.out,<-List.append_assoc];exact HK3
    case measure=>simp[intOf];omega
   ·have HX3:=iH hx3
    have HQ:=iH hq;clear hx3 hq hk5 ht5;gi_wp2
    go_ret;refine .inr ⟨rfl,catK (ks.take j)++q,?_,by rw[<-List.append_assoc];exact HX3.out⟩;refine List.IsPrefix.trans ?_ HPRE.out;rw[HCAT.out];exact(List.prefix_append_right_inj _).2 HQ.out
  ·have hpp:=HP.out
   have e:catK (ks.take j)=p.l:=by rw[hpp.2.2.2.1,List.take_of_length_le (by omega)]
   rw[e]at HKJ;have cc3:wr.cell? ⟨W.heap.size,3,none⟩=some (.slice none 0 0):=by rw[<-hpp.2.2.2.2];exact cell_in HXJ.out rfl
   clear hpp e;obtain⟨Wo,hWo⟩:∃Wo,Wo=wr:=⟨_,rfl⟩
   subst hWo;gi_wp2
   gi_loopw [24] (fun iv wr=>iv=.int .i64 0/\Wo=wr) (fun _ _=>0)
   case atStart=>exact⟨rfl,rfl⟩
   case round=>
    obtain⟨rfl,rfl⟩:=hrel;gi_wp2
    go_ret;exact .inl ⟨rfl,HKJ.out,HBJ.out,HTJ.out⟩
theorem rp_each {X Y n₀:Nat} {LST:List Cel} {K Kx:List Cel->World->Prop} (hstep:StepIn X Y K Kx LST n₀) (hK:∀pre A B,K pre A->Below A.heap.size A B->K pre B):∀h,EachIn X Y K Kx LST n₀ h
 |0=>each_leaf hstep hK
 |h+1=>each_inner hK h (rp_each hstep hK h)
theorem each_zero (f:Value) (m:Nat) (W:World):CallsIn Fence.wide m Tryz.prog 105 #[.agg zeroR,f] W fun e W'=>e=.returned (.bool true)/\Below W.heap.size W W':=by
 obtain⟨w1,hw1⟩:∃w1,W.alloc (.cells #[.int .i64 0,.int .i64 0,.slice none 0 0,.slice none 0 0] 86)=w1:=⟨_,rfl⟩
 obtain⟨hb1,hx1,hs1⟩:=nodes_new hw1;have ca2:w1.cell? ⟨W.heap.size,2,none⟩=some (.slice none 0 0):=cell_in hx1 rfl;have ca3:w1.cell? ⟨W.heap.size,3,none⟩=some (.slice none 0 0):=cell_in hx1 rfl;have HB1:=iH hb1;clear hb1 hx1 hs1;unfold zeroR;refine callsIn_of_wp Tryz.func105 rfl trivial ?_ rfl;simp only[Tryz.ntmps105,List.size_toArray,List.length_cons,List.length_nil,Nat.reduceAdd,Nat.reduceSub,Array.replicate_succ,Array.replicate_zero,List.push_toArray,List.append_toArray,List.nil_append,List.cons_append];gi_wp2
 gi_loopw [12] (fun iv wr=>iv=.int .i64 0/\w1=wr) (fun _ _=>0)
 case atStart=>exact⟨rfl,rfl⟩
 case round=>
  obtain⟨rfl,rfl⟩:=hrel;gi_wp2
  gi_loopw [24] (fun iv wr=>iv=.int .i64 0/\w1=wr) (fun _ _=>0)
  case atStart=>exact⟨rfl,rfl⟩
  case round=>
   obtain⟨rfl,rfl⟩:=hrel;gi_wp2
   go_ret;exact⟨rfl,HB1.out⟩
def placesL (l:List Cel):List (Nat×Cel):=(List.range l.length).map fun i=>(i,l.getD i zeroV)
theorem placesL_len (l:List Cel):(placesL l).length=l.length:=by simp[placesL]
theorem placesL_at (l:List Cel) (i:Nat) (hi:i<l.length):(placesL l)[i]? =some (i,l[i]):=by
 simp[placesL,hi,List.getD_eq_getElem?_getD]
theorem placesL_snoc (l:List Cel) (x:Cel):placesL (l++[x])=placesL l++[(l.length,x)]:=by
 unfold placesL;rw[List.length_append,List.length_singleton,List.range_succ,List.map_append,List.map_singleton];congr 1
 ·refine List.map_congr_left fun i hi=> ?_
  rw[List.mem_range]at hi;rw[List.getD_eq_getElem?_getD,List.getD_eq_getElem?_getD,List.getElem?_append_left hi]
 ·rw[List.getD_eq_getElem?_getD,List.getElem?_append_right (Nat.le_refl _),Nat.sub_self]
  rfl
theorem placesL_prefix {q l:List Cel} (h:q<+:l):placesL q<+:placesL l:=by
 obtain⟨r,rfl⟩:=h;have e:placesL q=(placesL (q++r)).take q.length:=by
  unfold placesL;rw[<-List.map_take,List.take_range,List.length_append,Nat.min_eq_left (by omega)];refine List.map_congr_left fun i hi=> ?_
  rw[List.mem_range]at hi;rw[List.getD_eq_getElem?_getD,List.getD_eq_getElem?_getD,List.getElem?_append_left hi]
 rw[e];exact List.take_prefix _ _
abbrev encP (x:Nat×Cel):Array Value:=#[Value.int .i64 (x.1:Int),Value.agg (celC x.2)]
structure RopeKeeps (RK IK:Nat->World->World->Prop) (n₀:Nat):Prop where
 new:∀{Y:Nat} {A B:World},Below A.heap.size A B->Y<=A.heap.size->IK Y A B
 put:∀{Y:Nat} {A:World} {u:Value} (v:Value),Boxed A (Y+1) 3 u->IK Y A (A.setCell ⟨Y+1,0,none⟩ v)
 low:∀{Y:Nat} {A B:World},RK Y A B->Below n₀ A B
 count:∀{Y:Nat} {A B:World} {u:Value},RK Y A B->Boxed A (Y+1) 3 u->Boxed B (Y+1) 3 u
 call:∀{Y:Nat} {A B:World} {u:Value},RK Y A B->Boxed A Y 157 u->Boxed B Y 157 u
 nodes:∀{Y:Nat} {A B:World},RK Y A B->TK 86 A B
theorem kw_keeps {Ts:TypeId->Prop} (n₀:Nat) (h1:¬Ts 3) (h2:¬Ts 157) (h3:¬Ts 86):RopeKeeps (fun Y A B=>KW Ts n₀ Y A B) (fun Y A B=>IKW Ts Y A B) n₀ where
 new:=fun h hY=>IKW.below h hY
 put:=fun {Y A u} v hb=>IKW.grown (grownBy_setCell' A _ v) (Nat.le_succ _) hb.lt (fun cs T fr e=>by
  rw[show A.heap[Y+1]? =_ from hb]at e;simp only[Option.some.injEq,Obj.cells.injEq]at e;rw[<-e.2.1];exact h1)
 low:=fun h=>h.1
 count:=fun h hb=>h.2.2.1 _ _ _ _ hb h1
 call:=fun h hb=>h.2.2.1 _ _ _ _ hb h2
 nodes:=fun h i cs fr e=>h.2.2.1 i cs _ fr e h3
theorem all_step {RK IK:Nat->World->World->Prop} (l n₀ Y:Nat) (LST:List Cel) (hk:RopeKeeps RK IK n₀) (hY:n₀<=Y) (hN:LST.length<=100000) (J Jx:List (Nat×Cel)->World->Prop) (hJ:∀s A B,J s A->IK Y A B->J s B)
  (hYl:∀m pre x V,J pre V->Y<=V.heap.size->pre++[x]<+:placesL LST->YieldAt Fence.wide m Tryz.prog l (encP x) V fun e V'=>
   (e=.returned (.bool true)/\J (pre++[x]) V'/\RK Y V V')\/(e=.returned (.bool false)/\Jx (pre++[x]) V')):
  StepIn (Y+1) Y (fun pre V=>Boxed V (Y+1) 3 (.int .i64 (pre.length:Int))/\Boxed V Y 157 (.func (.yield l) #[] #[])/\J (placesL pre) V) (fun pre V=>Jx (placesL pre) V) LST n₀:=by
 intro m pre x V ⟨hX,hYb,hJJ⟩ hpre hn;have hlen:pre.length<LST.length:=by have:=hpre.length_le;rw[List.length_append,List.length_singleton]at this;omega
 have hpl:placesL pre++[(pre.length,x)]<+:placesL LST:=by rw[<-placesL_snoc];exact placesL_prefix hpre
 obtain⟨k,hkk⟩:∃k,k=pre.length:=⟨_,rfl⟩
 rw[<-hkk]at hX hlen hpl;have hlt:Y+1<V.heap.size:=hX.lt;obtain⟨V1,hV1⟩:∃V1,V.alloc (.cells (celC x) 35)=V1:=⟨_,rfl⟩
 have hb1:Below V.heap.size V V1:=by rw[<-hV1];exact Below.newly' _ _
 have hv1:V1.heap[V.heap.size]? =some (.cells (celC x) 35 (0,0)):=by rw[<-hV1];exact heap_alloc_last _ _
 have hX0:Boxed V1 (Y+1) 3 (.int .i64 (k:Int)):=(hb1.block _ hlt).trans hX;have hY0:Boxed V1 Y 157 (.func (.yield l) #[] #[]):=(hb1.block _ (by omega)).trans hYb;have hJ0:J (placesL pre) V1:=hJ _ _ _ hJJ (hk.new hb1 (by omega));have hs1:V1.heap.size=V.heap.size+1:=by rw[<-hV1];simp
 have cX:=hX0.cell;have fX:=hX0.frozen;obtain⟨V2,hV2⟩:∃V2,V2=V1.setCell ⟨Y+1,0,none⟩ (.int .i64 ((k:Int)+1)):=⟨_,rfl⟩
 have hX1:Boxed V2 (Y+1) 3 (.int .i64 ((k:Int)+1)):=by rw[hV2];exact hX0.set _
 have hY1:Boxed V2 Y 157 (.func (.yield l) #[] #[]):=by rw[hV2];exact hY0.other (B':=Y+1) (by omega) _
 have cY1:=hY1.cell;have cX1:=hX1.cell;have hgs:V1.grownBy V2 (some (Y+1)):=by rw[hV2];exact grownBy_setCell' V1 (Y+1) (.int .i64 ((k:Int)+1))
 have hb2:Below n₀ V V2:=(hb1.mono hn).trans ((Below.refl n₀ V1).grown hgs (by omega) (fun k e=>by cases e;omega));have ht2:TK 86 V V2:=(TK.below hb1).trans (TK.grown hgs fun X e cs fr h'=>by
  obtain rfl:=Option.some.inj e;rw[show V1.heap[Y+1]? =_ from hX0]at h';simp only[Option.some.injEq,Obj.cells.injEq]at h';exact absurd h'.2.1 (by decide))
 have hv2:V2.heap[V.heap.size]? =some (.cells (celC x) 35 (0,0)):=(hgs.block _ (by omega) (by simp;omega)).trans hv1;have hsz:V2.heap.size=V1.heap.size:=by rw[hV2];simp[World.setCell]
 have hJ2:J (placesL pre) V2:=by rw[hV2];exact hJ _ _ _ hJ0 (hk.put _ hX0)
 obtain⟨fn,tmps,assign,body,hy,hR⟩:=hYl (m-1) (placesL pre) (k,x) V2 hJ2 (by omega) hpl;dsimp only[encP]at hy;have HB2:=iH hb2;have HT2:=iH ht2;have HX1:=iH hX1;have HY1:=iH hY1;have HV2:=iH hv2;have HKK:=iH hkk;have HKE:=iH hk;have hk5:(k:Int)<=100000:=by omega
 rw[hV2]at hy cY1 cX1 HV2 hR;clear hX hYb hJJ hlen hpl hpre hX1 hY1 hgs hb1 hb2 ht2 hsz hs1 hkk hJ hJ0 hJ2 hYl hX0 hY0 hv1 hv2 hk hlt hn;refine callsIn_of_wp Tryz.func106 rfl trivial ?_ rfl;simp only[Tryz.ntmps106,List.size_toArray,List.length_cons,List.length_nil,Nat.reduceAdd,Nat.reduceSub,Array.replicate_succ,Array.replicate_zero,List.push_toArray,List.append_toArray,List.nil_append,List.cons_append];gi_wp2_with (first
  |(rw[hV1])
  |(refine ld_wide rfl 35 _ rfl V.heap.size rfl 35 _ _ _ HV2.out Tryz.underlying35 rfl val_size ?_))
 refine⟨fun h=>absurd h (by simp[Fence.wide]),?_⟩;refine hR.mono ?_;rintro e W3 (⟨rfl,hj3,hks⟩|⟨rfl,hjx⟩)
 ·have HJ3:=iH hj3
  rw[<-hV2]at hks;have HKS:=iH hks;clear hj3 hks;gi_wp2
  go_ret;have hk:=HKK.out;refine .inl ⟨rfl,⟨?_,HKE.out.call HKS.out HY1.out,?_⟩,HB2.out.trans (HKE.out.low HKS.out),HT2.out.trans (HKE.out.nodes HKS.out)⟩
  ·have e:((pre++[x]).length:Int)=(k:Int)+1:=by rw[List.length_append,List.length_singleton];omega
   rw[e];exact HKE.out.count HKS.out HX1.out
  ·rw[placesL_snoc,<-hk]
   exact HJ3.out
 ·have HJ3:=iH hjx
  clear hjx;gi_wp2
  go_ret;have hk:=HKK.out;refine .inr ⟨rfl,?_⟩;rw[placesL_snoc,<-hk];exact HJ3.out
theorem rp_all1 {RK IK:Nat->World->World->Prop} (Bs n₀:Nat) (hkk:RopeKeeps RK IK n₀) (c:Array Value) (lst:List Cel) (w:World) (hn₀:n₀<=w.heap.size) (hX:w.heap[Bs]? =some (.cells c 88 (0,0))) (hv:RootR (fun g=>g<n₀) w c lst) (hN:lst.length<=100000):
  IterR Tryz.prog 104 #[.pointer (some ⟨Bs,0,none⟩)] encP RK IK (fun ys=>ys=placesL lst) (fun pre=>pre<+:placesL lst) (fun pre=>pre<+:placesL lst) w:=by
 intro l J Jx W hW hA hY h0 m;have hst:=all_step l n₀ W.heap.size lst hkk (Nat.le_trans hn₀ hW.size) hN J Jx hA hY;have hKK:∀pre A B,(Boxed A (W.heap.size+1) 3 (.int .i64 (pre.length:Int))/\Boxed A W.heap.size 157 (.func (.yield l) #[] #[])/\J (placesL pre) A)->Below A.heap.size A B->
   (Boxed B (W.heap.size+1) 3 (.int .i64 (pre.length:Int))/\Boxed B W.heap.size 157 (.func (.yield l) #[] #[])/\J (placesL pre) B):=fun pre A B ⟨h1,h2,h3⟩ hb=>
  ⟨(hb.block _ h1.lt).trans h1,(hb.block _ h2.lt).trans h2,hA _ _ _ h3 (hkk.new hb (Nat.le_of_lt h2.lt))⟩
 obtain⟨W2,hW2⟩:∃W2,(W.alloc (.cells #[.func (.yield l) #[] #[]] 157)).alloc (.cells #[.int .i64 0] 3)=W2:=⟨_,rfl⟩
 obtain⟨hb2,hx2,hy2,hs2⟩:=two_new hW2;have hI2:Boxed W2 (W.heap.size+1) 3 (.int .i64 0):=hy2;have hF2:Boxed W2 W.heap.size 157 (.func (.yield l) #[] #[]):=hx2;have cI:=hI2.cell;have fI:=hI2.frozen;obtain⟨W3,hW3⟩:∃W3,W3=W2.setCell ⟨W.heap.size+1,0,none⟩ (.int .i64 0):=⟨_,rfl⟩
 have HK3:Hid (Boxed W3 (W.heap.size+1) 3 (.int .i64 (([]:List Cel).length:Int))/\Boxed W3 W.heap.size 157 (.func (.yield l) #[] #[])/\J (placesL []) W3):=by
  show _/\_/\_;rw[hW3];exact⟨hI2.set _,hF2.other (by omega) _,hA _ _ _ (hA _ _ _ h0 (hkk.new hb2 (Nat.le_refl _))) (hkk.put _ hI2)⟩
 have hBl:=(gZ hX)
 have hX2:=(hb2.block _ (Nat.lt_of_lt_of_le hBl hW.size)).trans ((hW.block _ hBl).trans hX);have HX3:Hid (W3.heap[Bs]? =some (.cells c 88 (0,0))):=by
  show _=_;rw[hW3];exact(heap_setCell_other _ _ _ _ (by show Bs≠W.heap.size+1;have:=hW.size;omega)).trans hX2
 have hb3:Below n₀ W W3:=by
  rw[hW3];exact(hb2.mono (Nat.le_trans hn₀ hW.size)).setCell (p:=⟨W.heap.size+1,0,none⟩) (by show n₀<=W.heap.size+1;have:=hW.size;omega) _
 have HV3:=iH (hv.low ((hW.mono hn₀).trans hb3));have HCS:=iH hv.size;have HN3:Hid (n₀<=W3.heap.size):=Nat.le_trans (Nat.le_trans hn₀ hW.size) hb3.size;have HST:=iH hst;have HKA:=iH hKK;clear hb2 hx2 hy2 hs2 hst hKK hX hv hN hA hY h0 hI2 hF2 hBl hX2 hb3 hkk;refine callsIn_of_wp Tryz.func104 rfl trivial ?_ rfl;simp only[Tryz.ntmps104,List.size_toArray,List.length_cons,List.length_nil,Nat.reduceAdd,Nat.reduceSub,Array.replicate_succ,Array.replicate_zero,List.push_toArray,List.append_toArray,List.nil_append,List.cons_append];gi_wp2_with (first
  |(rw[<-hW3];clear hW3;refine ld_wide rfl 86 _ rfl Bs rfl 88 _ _ _ HX3.out Tryz.underlying86 rfl (by rw[HCS.out];exact rnode_size) ?_))
 refine⟨trivial,fun h=>absurd h (by simp[Fence.wide]),?_⟩;rcases HV3.out with⟨rfl,rfl⟩|⟨h,p,rfl,rfl,hp,_⟩
 ·refine(each_zero _ _ _).mono ?_
  rintro e W4 ⟨rfl,hb4⟩;have h4:=HKA.out _ _ _ HK3.out hb4;gi_wp2
  go_end0;exact⟨⟨_,rfl⟩,.inl ⟨_,rfl,h4.2.2⟩⟩
 ·refine(rp_each HST.out HKA.out h (m-1) p [] W3 hp HK3.out (by simp) HN3.out).mono ?_
  rintro e W4 (⟨rfl,hk4,_⟩|⟨rfl,q,hq,hx4⟩)
  ·gi_wp2
   go_end0;exact⟨⟨_,rfl⟩,.inl ⟨_,rfl,hk4.2.2⟩⟩
  ·gi_wp2
   go_end0;exact⟨⟨_,rfl⟩,.inr ⟨_,placesL_prefix hq,hx4⟩⟩
theorem rp_All_in (n:Nat) (c:Array Value) (w:World):
  CallsIn Fence.wide n Tryz.prog 78 #[.agg c] w fun e w'=>e=.returned (.func (.func 104) #[] #[.pointer (some ⟨w.heap.size,0,none⟩)])/\w'=w.alloc (.cells c 88):=by
 refine callsIn_of_wp Tryz.func78 rfl trivial ?_ rfl;simp only[Tryz.ntmps78,List.size_toArray,List.length_cons,List.length_nil,Nat.reduceAdd,Nat.reduceSub,Array.replicate_succ,Array.replicate_zero,List.push_toArray,List.append_toArray,List.nil_append,List.cons_append];gi_wp2
 go_ret;exact⟨rfl,rfl⟩
end Go.Proofs.YtengibnpebfblaaGreatDoor
