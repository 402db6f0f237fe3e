import Derived.Test.YtengibnpebfblaaGreatDoorB37
import Derived.Test.YtengibnpebfblaaGreatDoorB40
set_option maxRecDepth 1000000
set_option maxHeartbeats 8000000
set_option linter.unusedSimpArgs false
namespace Go.Proofs.YtengibnpebfblaaGreatDoor
open Go.RowKit
theorem one_tr {k n:Int} {t:ByteArray} {kv iv:Value} (hk:∃a l c,kv=.slice a l c) (hi:∃a l c,iv=.slice a l c):(trC k n t kv iv).all (·.oneCell')=true:=by
 obtain⟨_,_,_,rfl⟩:=hk;obtain⟨_,_,_,rfl⟩:=hi;simp[Value.oneCell']
def mapP (ks:List ByteArray) (xs:List Tr) (j:Nat):List (ByteArray×Tr):=((ks.zip (canL xs)).take j).foldl (putB kbF) []
def setP (xs:List Tr) (j:Nat):List Tr:=((canL xs).take j).foldl (putB keyT) []
theorem canL_at {xs:List Tr} {j:Nat} (hj:j<xs.length):(canL xs)[j]? =some (canT xs[j]):=by rw[canL_map,List.getElem?_map,List.getElem?_eq_getElem hj];rfl
theorem canL_len (xs:List Tr):(canL xs).length=xs.length:=by rw[canL_map,List.length_map]
theorem take_next' {β:Type} {l:List β} {j:Nat} {y:β} (h:l[j]? =some y):l.take (j+1)=l.take j++[y]:=by
 obtain⟨hj,rfl⟩:=List.getElem?_eq_some_iff.1 h;exact List.take_succ_eq_append_getElem hj
theorem mapP_next {ks:List ByteArray} {xs:List Tr} {j:Nat} (hl:ks.length=xs.length) (hj:j<xs.length):mapP ks xs (j+1)=putB kbF (mapP ks xs j) (ks[j]'(by omega),canT xs[j]):=by
 unfold mapP;rw[take_next' (y:=(ks[j]'(by omega),canT xs[j])) (List.getElem?_zip_eq_some.2 ⟨List.getElem?_eq_getElem (by omega),canL_at hj⟩),List.foldl_append];rfl
theorem setP_next {xs:List Tr} {j:Nat} (hj:j<xs.length):setP xs (j+1)=putB keyT (setP xs j) (canT xs[j]):=by
 unfold setP;rw[take_next' (canL_at hj),List.foldl_append];rfl
theorem mapP_len {ks:List ByteArray} {xs:List Tr} (hl:ks.length=xs.length) {j:Nat} (hj:j<=xs.length):(mapP ks xs j).length=j:=by
 have h:=(fold_perm (f:=kbF) ((ks.zip (canL xs)).take j) []).length_eq;unfold mapP;rw[h,List.nil_append,List.length_take,List.length_zip,canL_len];omega
theorem setP_len {xs:List Tr} {j:Nat} (hj:j<=xs.length):(setP xs j).length=j:=by
 have h:=(fold_perm (f:=keyT) ((canL xs).take j) []).length_eq;unfold setP;rw[h,List.nil_append,List.length_take,canL_len];omega
theorem mapP_mem {ks:List ByteArray} {xs:List Tr} {j:Nat} {p:ByteArray×Tr} (h:p∈mapP ks xs j):p.1∈ks:=by
 have h2:=(fold_perm (f:=kbF) ((ks.zip (canL xs)).take j) []).mem_iff.1 h;rw[List.nil_append]at h2;exact(List.of_mem_zip (List.mem_of_mem_take h2)).1
theorem setP_mem {xs:List Tr} {j:Nat} {p:Tr} (h:p∈setP xs j):∃x∈xs,p=canT x:=by
 have h2:=(fold_perm (f:=keyT) ((canL xs).take j) []).mem_iff.1 h;rw[List.nil_append]at h2;have h3:=List.mem_of_mem_take h2;rw[canL_map]at h3;obtain⟨x,hx,rfl⟩:=List.mem_map.1 h3;exact⟨x,hx,rfl⟩
theorem put_place {β:Type} {f:β->List UInt8} {K:β->ByteArray} (hK:∀b,kb (K b)=f b) (P:List β) (x:β):putB f P x=putN (placeK (P.map K) (K x)) P x:=by
 have h:placeK (P.map K) (K x)=(P.takeWhile fun y=>decide (f y<f x)).length:=by
  unfold placeK;rw[(tw_map (fun y=>decide (kb y<kb (K x))) K P).1,List.length_map];congr 2
  funext y
  simp[hK]
 unfold putN putB;rw[h,tw_take,tw_drop]
theorem putN_map {β γ:Type} (g:β->γ) (n:Nat) (l:List β) (x:β):(putN n l x).map g=putN n (l.map g) (g x):=by
 unfold putN;rw[List.map_append,List.map_cons,List.map_take,List.map_drop]
section
variable {n0 : Nat} {kv iv : Value} {ks : List ByteArray} {xs : List Tr} {css : List (Array Value)} {j : Nat} {V V' : World}
def VecC (n0:Nat) (iv:Value) (xs:List Tr) (css:List (Array Value)) (j:Nat) (V:World):Prop:=
 RowsW n0 28 5 iv css V/\css.length=j/\TrSL (fun g=>n0<=g/\iv.ownBlock≠some g) V ((canL xs).take j) css
def VecN (n0:Nat) (iv:Value) (xs:List Tr) (css:List (Array Value)) (j:Nat) (y:Tr) (c:Array Value) (V:World):Prop:=
 VecC n0 iv xs css j V/\TrS (fun g=>n0<=g/\iv.ownBlock≠some g) V (canT y) (.agg c)
theorem vecC_nil (h:n0<=V.heap.size):VecC n0 (.slice none 0 0) xs [] 0 V:=⟨RowsW.nil h,rfl,by rw[List.take_zero,TrSL]⟩
theorem VecC.later (h:VecC n0 iv xs css j V) (hb:Below V.heap.size V V'):VecC n0 iv xs css j V':=⟨h.1.later hb,h.2.1,h.2.2.later hb⟩
theorem VecN.later {y:Tr} {c:Array Value} (h:VecN n0 iv xs css j y c V) (hb:Below V.heap.size V V'):VecN n0 iv xs css j y c V':=⟨h.1.later hb,h.2.later hb⟩
theorem VecC.new {y:Tr} {c:Array Value} (h:VecC n0 iv xs css j V) (hb:Below V.heap.size V V') (hy:TrS (fun g=>V.heap.size<=g) V' (canT y) (.agg c)):VecN n0 iv xs css j y c V':=
 ⟨h.later hb,hy.weak fun g hg=>⟨Nat.le_trans h.1.2.1 hg,fun e=>by have:=(h.1.own.lt e).2;omega⟩⟩
theorem VecN.next {y:Tr} {c:Array Value} {v7:Value} (h:VecN n0 iv xs css j y c V) (hlx:j<xs.length) (hy:y=xs[j]) (hc:c.size=5) (hr:RowsW n0 28 5 v7 (css++[c]) V') (hg:V.grownBy V' iv.ownBlock) (hn:v7.ownBlock=iv.ownBlock\/∃g',v7.ownBlock=some g'/\V.heap.size<=g'):∃css,VecC n0 v7 xs css (j+1) V':=by
 obtain⟨⟨h1,h2,h3⟩,h4⟩:=h;refine⟨css++[c],hr,by simp;omega,?_⟩;rw[take_next' (canL_at hlx),<-hy];refine(trSL_app h3 (trSL_one hc h4)).imp (KT.grown hg fun X e hX=>hX.2 e) fun g hg' hlt=>⟨hg'.1,?_⟩
 rcases hn with e|⟨g',e,hge⟩
 ·rw[e];exact hg'.2
 ·rw[e];intro e';have:=Option.some.inj e';omega
theorem VecC.fin {k n:Int} {t:ByteArray} (h:VecC n0 iv xs css xs.length V) (h5:k≠5) (h6:k≠6) (ht:t.size<=maxLen) (hk:InR k) (hn:InR n):TrS (fun g=>n0<=g) V (canT (.nd k n t ks xs)) (.agg (trC k n t (.slice none 0 0) iv)):=by
 obtain⟨h1,h2,h3⟩:=h;have h4:=h1.own.lsT;rw[canT,if_neg h5,if_neg h6,TrS];rw[List.take_of_length_le (Nat.le_of_eq (canL_len xs))]at h3;refine⟨_,_,css,rfl,ht,hk,hn,lsT_nil _ _ _ _,?_,h3.weak fun g hg=>hg.1⟩;rw[canL_len,<-h2];exact h4.imp (.inr rfl) KT.refl fun g hg _=>(h1.own.lt hg).1
def MapC (n0:Nat) (kv iv:Value) (ks:List ByteArray) (xs:List Tr) (j:Nat) (V:World):Prop:=
 ∃css,LsT (fun g=>n0<=g) V 9 1 kv (((mapP ks xs j).map (·.1)).map Value.string) (mapP ks xs j).length/\LsT (fun g=>n0<=g) V 28 5 iv (css.flatMap Array.toList) (mapP ks xs j).length/\TrSL (fun g=>n0<=g) V ((mapP ks xs j).map (·.2)) css
def SetC (n0:Nat) (kv iv:Value) (xs:List Tr) (j:Nat) (V:World):Prop:=
 ∃css,LsT (fun g=>n0<=g) V 9 1 kv (((setP xs j).map kB).map Value.string) (setP xs j).length/\LsT (fun g=>n0<=g) V 28 5 iv (css.flatMap Array.toList) (setP xs j).length/\TrSL (fun g=>n0<=g) V (setP xs j) css
theorem mapC_nil:MapC n0 (.slice none 0 0) (.slice none 0 0) ks xs 0 V:=⟨[],lsT_nil _ _ _ _,lsT_nil _ _ _ _,by simp[mapP,TrSL]⟩
theorem setC_nil:SetC n0 (.slice none 0 0) (.slice none 0 0) xs 0 V:=⟨[],lsT_nil _ _ _ _,lsT_nil _ _ _ _,by simp[setP,TrSL]⟩
theorem MapC.later (h:MapC n0 kv iv ks xs j V) (hb:Below V.heap.size V V'):MapC n0 kv iv ks xs j V':=by
 obtain⟨css,h1,h2,h3⟩:=h;exact⟨css,h1.imp (.inl rfl) (KT.later hb) fun _ h _=>h,h2.imp (.inr rfl) (KT.later hb) fun _ h _=>h,h3.later hb⟩
theorem SetC.later (h:SetC n0 kv iv xs j V) (hb:Below V.heap.size V V'):SetC n0 kv iv xs j V':=by
 obtain⟨css,h1,h2,h3⟩:=h;exact⟨css,h1.imp (.inl rfl) (KT.later hb) fun _ h _=>h,h2.imp (.inr rfl) (KT.later hb) fun _ h _=>h,h3.later hb⟩
theorem LsT.shape {S:Nat->Prop} {W:World} {T:TypeId} {s n:Nat} {v:Value} {cs:List Value} (h:LsT S W T s v cs n):∃a l c,v=.slice a l c:=by
 obtain⟨_,_,a,c,e,_⟩:=h;exact⟨a,n,c,e⟩
theorem MapC.shapes (h:MapC n0 kv iv ks xs j V):(∃a l c,kv=.slice a l c)/\∃a l c,iv=.slice a l c:=by
 obtain⟨css,h1,h2,h3⟩:=h;exact⟨h1.shape,h2.shape⟩
theorem SetC.shapes (h:SetC n0 kv iv xs j V):(∃a l c,kv=.slice a l c)/\∃a l c,iv=.slice a l c:=by
 obtain⟨css,h1,h2,h3⟩:=h;exact⟨h1.shape,h2.shape⟩
theorem MapC.fin {n:Int} {t:ByteArray} (h:MapC n0 kv iv ks xs xs.length V) (hl:ks.length=xs.length) (ht:t.size<=maxLen) (hn:InR n):TrS (fun g=>n0<=g) V (canT (.nd 5 n t ks xs)) (.agg (trC 5 n t kv iv)):=by
 obtain⟨css,h1,h2,h3⟩:=h;have he:mapP ks xs xs.length=srtB kbF (ks.zip (canL xs)):=by
  unfold mapP srtB;rw[List.take_of_length_le (by rw[List.length_zip,canL_len];omega)]
 rw[he]at h1 h2 h3;rw[canT,if_pos rfl,TrS];exact⟨_,_,css,rfl,ht,by decide,hn,by rw[List.length_map];exact h1,by rw[List.length_map];exact h2,h3⟩
theorem SetC.fin {n:Int} {t:ByteArray} (h:SetC n0 kv iv xs xs.length V) (ht:t.size<=maxLen) (hn:InR n):TrS (fun g=>n0<=g) V (canT (.nd 6 n t ks xs)) (.agg (trC 6 n t (.slice none 0 0) iv)):=by
 obtain⟨css,h1,h2,h3⟩:=h;have he:setP xs xs.length=srtB keyT (canL xs):=by
  unfold setP srtB;rw[List.take_of_length_le (Nat.le_of_eq (canL_len xs))]
 rw[he]at h2 h3;rw[canT,if_neg (by decide),if_pos rfl,TrS];exact⟨_,_,css,rfl,ht,by decide,hn,lsT_nil _ _ _ _,h2,h3⟩
theorem MapC.put {n3:Nat} {y:Tr} {yk:ByteArray} {c:Array Value} {w5 W:World} (h:MapC n0 kv iv ks xs j w5) (hyt:TrS (fun g=>n3<=g) W (canT y) (.agg c)) (hb:Below w5.heap.size w5 W) (hlx:j<xs.length) (hy:y=xs[j]) (hjk:j<ks.length) (hyk:yk=ks[j]) (hl:ks.length=xs.length)
  (hx:(∀z∈ks,z.size<=3000)/\xs.length<=16383) (hn:n0<=n3/\n0<=w5.heap.size):Calls Tryz.prog 37 #[kv,iv,.string yk,.agg c] W fun r w'=>∃kv' iv',r=.returned (.tuple #[kv',iv'])/\MapC n0 kv' iv' ks xs (j+1) w'/\Below W.heap.size W w':=by
 obtain⟨css,h1,h2,h3⟩:=h.later hb;have hlen:=mapP_len hl (Nat.le_of_lt hlx);refine(rf_put (S:=fun g=>n0<=g) W kv iv ((mapP ks xs j).map (·.1)) ((mapP ks xs j).map (·.2)) css yk (canT y) (.agg c) (by rw[List.length_map];exact h1) (by rw[List.length_map];exact h2) h3 (hyt.weak fun g hg=>Nat.le_trans hn.1 hg) (by rw[List.length_map,List.length_map]) (by rw[List.length_map,hlen];omega) fun z hz=> ?_).mono fun r w' ⟨kv',iv',xc,e1,e2,e3,e4,e5,e6⟩=> ?_
 ·obtain⟨p,hp,rfl⟩:=List.mem_map.1 hz
  exact Nat.le_trans (hx.1 _ (mapP_mem hp)) (by decide)
 ·have hnx:=mapP_next hl hlx
  rw[put_place (K:=fun p:ByteArray×Tr=>p.1) (fun b=>rfl)]at hnx;rw[<-hy,<-hyk]at hnx;have m1:(mapP ks xs (j+1)).map (·.1)=putN (placeK ((mapP ks xs j).map (·.1)) yk) ((mapP ks xs j).map (·.1)) yk:=by rw[hnx,putN_map]
  have m2:(mapP ks xs (j+1)).map (·.2)=putN (placeK ((mapP ks xs j).map (·.1)) yk) ((mapP ks xs j).map (·.2)) (canT y):=by rw[hnx,putN_map]
  have hs:=hb.size;refine⟨kv',iv',e2,⟨_,?_,?_,by rw[m2];exact e5⟩,e6⟩
  ·rw[show(mapP ks xs (j+1)).length=((mapP ks xs (j+1)).map (·.1)).length from(List.length_map _).symm,m1]
   exact e3.imp (.inl rfl) KT.refl fun g hg _=>by have:W.heap.size<=g:=hg;omega
  ·rw[show(mapP ks xs (j+1)).length=((mapP ks xs (j+1)).map (·.2)).length from(List.length_map _).symm,m2]
   exact e4.imp (.inr rfl) KT.refl fun g hg _=>by have:W.heap.size<=g:=hg;omega
theorem SetC.put {n3:Nat} {y:Tr} {c:Array Value} {w5 W:World} (h:SetC n0 kv iv xs j w5) (hyt:TrS (fun g=>n3<=g) W (canT y) (.agg c)) (hb:Below w5.heap.size w5 W) (hlx:j<xs.length) (hy:y=xs[j])
  (hx:(∀z∈xs,ValB (canT z))/\xs.length<=16383) (hn:n0<=n3/\n0<=w5.heap.size):Calls Tryz.prog 37 #[kv,iv,.string (kB (canT y)),.agg c] W fun r w'=>∃kv' iv',r=.returned (.tuple #[kv',iv'])/\SetC n0 kv' iv' xs (j+1) w'/\Below W.heap.size W w':=by
 obtain⟨css,h1,h2,h3⟩:=h.later hb;have hlen:=setP_len (Nat.le_of_lt hlx);refine(rf_put (S:=fun g=>n0<=g) W kv iv ((setP xs j).map kB) (setP xs j) css (kB (canT y)) (canT y) (.agg c) (by rw[List.length_map];exact h1) h2 h3 (hyt.weak fun g hg=>Nat.le_trans hn.1 hg) (by rw[List.length_map]) (by rw[List.length_map,hlen];omega) fun z hz=> ?_).mono fun r w' ⟨kv',iv',xc,e1,e2,e3,e4,e5,e6⟩=> ?_
 ·obtain⟨p,hp,rfl⟩:=List.mem_map.1 hz
  obtain⟨x,hxm,rfl⟩:=setP_mem hp;exact Nat.le_trans (hx.1 x hxm).kB (by decide)
 ·have hnx:=setP_next hlx
  rw[put_place (K:=kB) (fun b=>kb_kB b),<-hy]at hnx;have m1:(setP xs (j+1)).map kB=putN (placeK ((setP xs j).map kB) (kB (canT y))) ((setP xs j).map kB) (kB (canT y)):=by rw[hnx,putN_map]
  have hs:=hb.size;refine⟨kv',iv',e2,⟨_,?_,?_,by rw[hnx];exact e5⟩,e6⟩
  ·rw[show(setP xs (j+1)).length=((setP xs (j+1)).map kB).length from(List.length_map _).symm,m1]
   exact e3.imp (.inl rfl) KT.refl fun g hg _=>by have:W.heap.size<=g:=hg;omega
  ·rw[hnx]
   exact e4.imp (.inr rfl) KT.refl fun g hg _=>by have:W.heap.size<=g:=hg;omega
end
theorem rf_Canon (a:Tr):∀(v:Value) (w:World),TrV w a v->OkT a->depT a<=64->nodT a<=16384->TxtT 3000 a->Calls Tryz.prog 12 #[v] w fun e w'=>∃c,e=.returned (.agg c)/\c.size=5/\TrS (fun g=>w.heap.size<=g) w' (canT a) (.agg c)/\Below w.heap.size w w':=by
 induction a using tr_ind with
 |h k n t ks xs ih=>
  intro v w hv ho hdp hnd htx;obtain⟨kv,xv,rfl,ht,hk,hn,⟨kd,kcap,kb1,ko,rfl,k1,k2,k3⟩,ad,cap,bb,oo,rfl,h1,hmax,h2⟩:=hv.open';have hok:=okT_iff.1 ho;simp only[Tr.k,Tr.xs]at hok;have hown:=own_ok.1 hok.1;simp only[Tr.k,Tr.n,Tr.t,Tr.ks,Tr.xs]at hown;have htx1:=txtT_iff.1 htx;simp only[Tr.t,Tr.ks,Tr.xs]at htx1;have hnd1:nodL xs<=16383:=by rw[nodT]at hnd;omega
  have hdp1:depL xs<=63:=by rw[depT]at hdp;omega
  obtain⟨N,hN⟩:∃N,N=xs.length:=⟨_,rfl⟩
  have hN4:N<=16383:=by rw[hN];exact Nat.le_trans (len_nodL xs) hnd1
  obtain⟨lk,hlk⟩:∃lk,lk=ks.length:=⟨_,rfl⟩
  have hkl:k=5->ks.length=xs.length:=fun h5=>by
   rcases hown with⟨_,h,_⟩|⟨_,_,⟨h,_⟩|⟨_,h,_⟩|⟨h,_⟩⟩
   ·omega
   ·omega
   ·exact h
   ·omega
  have hpp:∀y∈xs,OkT y/\depT y<=64/\nodT y<=16384/\TxtT 3000 y:=fun y hy=>⟨hok.2.1 y hy,by have:=depL_mem hy;omega,by have:=nodL_mem hy;omega,htx1.2.2 y hy⟩
  have hvb:∀y∈xs,ValB (canT y):=fun y hy=>valB_can (hpp y hy).1 (hpp y hy).2.1 (hpp y hy).2.2.1 ((rngT_iff.1 (trV_rng _ _ hv)).2 y hy) (hpp y hy).2.2.2
  have hts:∀z∈ks,z.size<=3000:=htx1.2.1
  rw[<-hN]at h1 ⊢;rw[<-hlk]at k1 ⊢;have HIH:=iH ih;have HLO:=iH h1;have HLC:=iH h2;have HPP:=iH hpp;have HRNG:=iH (And.intro ht (And.intro hk hn));have HKC:=iH k2;obtain⟨w2,hw2⟩:∃w2,(w.alloc (.cells (trC k n t (.slice kd lk kcap) (.slice ad N cap)) 28)).alloc (.cells (trC 0 0 ⟨#[]⟩ (.slice none 0 0) (.slice none 0 0)) 28)=w2:=⟨_,rfl⟩
  obtain⟨hb2,hx2,hr2,hs2⟩:=two_new hw2;have hNL:=And.intro k1 (And.intro hN hlk);clear ih h1 h2 hmax k3 hok hown htx1 hnd1 hdp1 hpp ho hdp hnd htx hv ht hk hn k1 k2 hN hlk;by_cases c5:k=5
  ·subst c5
   have HKL:=iH (And.intro (hkl rfl) hNL);have HTX:Hid ((∀z∈ks,z.size<=3000)/\xs.length<=16383):=⟨hts,by rw[<-hNL.2.1];exact hN4⟩
   clear hkl hNL hts hvb;have HXC:Hid (∀W,Below (w.heap.size+2) w2 W->∀(i:Nat) (u:Value),(trC 5 n t (.slice kd lk kcap) (.slice ad N cap))[i]? =some u->W.cell? ⟨w.heap.size,i,none⟩=some u):=fun W hb i u hu=>cell_in ((hb.block _ (by omega)).trans hx2) hu
   have HRR:Hid (∀W,Below (w.heap.size+2) w2 W->W.heap[w.heap.size+1]? =some (.cells (trC 0 0 ⟨#[]⟩ (.slice none 0 0) (.slice none 0 0)) 28 (0,0))):=fun W hb=>(hb.block _ (by omega)).trans hr2
   have HN0:Hid (w2.heap.size=w.heap.size+2):=hs2;have HB2:=iH hb2;have HW:Hid (Below (w.heap.size+2) w2 w2):=Below.refl _ _;have HS0:Hid (MapC (w.heap.size+2) (.slice none 0 0) (.slice none 0 0) ks xs 0 w2):=mapC_nil;have cx4:w2.cell? ⟨w.heap.size,4,none⟩=some (.slice ad N cap):=cell_in hx2 rfl;clear hx2 hr2 hs2 hb2;go_enter Tryz.func12,Tryz.ntmps12;go_upto_region 1 with fail
   clear hw2;go_wp2_with fail
   clear cx4;go_loopw [3,4,5,6,7,11] (fun a3 a4 a5 a6 a7 i wl=>∃(j:Nat) (kv iv:Value),j<=N/\i=.int .i64 (j:Int)/\kv=a3/\iv=a4/\(∃c,c=a5)/\(∃c,c=a6)/\(∃c,c=a7)/\Hid (MapC (w.heap.size+2) kv iv ks xs j wl)/\Hid (Below (w.heap.size+2) w2 wl)) (fun _ _ _ _ _ i _=>N-(intOf i).toNat)
   case atStart=>exact⟨0,_,_,Nat.zero_le _,rfl,rfl,rfl,⟨_,rfl⟩,⟨_,rfl⟩,⟨_,rfl⟩,HS0.out,HW.out⟩
   case round=>
    clear HW HS0;obtain⟨j,kv,iv,hj,rfl,rfl,rfl,_,_,_,HI,HW⟩:=hrel;have hst:=HI.out;clear HI;have HJN:Hid (j<=N/\N<=16383):=⟨hj,hN4⟩
    obtain⟨hke,hie⟩:=hst.shapes;by_cases hlt:j<N
    ·have hlt':(j:Int)<(N:Int):=by omega
     have i0:(0:Int)<=(j:Int):=by omega
     have hlx:j<xs.length:=by rw[<-HKL.out.2.2.1];exact hlt
     have had:ad=some ⟨bb,oo,none⟩:=HLO.out (by omega);subst had;obtain⟨cs,c1,c2,c3⟩:=HLC.out j hlx;have hmem:=List.getElem_mem hlx;obtain⟨y,hy⟩:∃y,y=xs[j]:=⟨_,rfl⟩
     have HYE:=iH hy;rw[<-hy]at c3 hmem;obtain⟨k',n',t',pa,pl,pc,qa,ql,qc,rfl⟩:=c3.cells;have HLOW:=iH (fun W (hb:Below (w.heap.size+2) w2 W)=>HB2.out.trans (hb.mono (by omega)));have HR:=iH (show wr.rangeAt bb (oo+j*5) (trC k' n' t' (.slice pa pl pc) (.slice qa ql qc)).toList from fun i v hv=>((HLOW.out _ HW.out).cell (World.block_lt_of_cell? w _ (c2 i v hv))).trans (c2 i v hv));have hp:=HPP.out y hmem;have HYB:=iH (valB_can hp.1 hp.2.1 hp.2.2.1 (trV_rng _ _ c3) hp.2.2.2);have HCL:Hid (∀W,Below (w.heap.size+2) w2 W->Calls Tryz.prog 12 #[.agg (trC k' n' t' (.slice pa pl pc) (.slice qa ql qc))] W fun e w'=>∃c,e=.returned (.agg c)/\c.size=5/\TrS (fun g=>W.heap.size<=g) w' (canT y) (.agg c)/\Below W.heap.size W w'):=fun W hW=>HIH.out y hmem _ W (c3.later (HLOW.out W hW)) hp.1 hp.2.1 hp.2.2.1 hp.2.2.2
     clear c1 c2 c3 hmem hy hp;obtain⟨wq,hwq⟩:∃wq,wq=wr:=⟨_,rfl⟩
     have HST:Hid (MapC (w.heap.size+2) kv iv ks xs j wr):=hst;clear hst hwq wq;go_upto_region 6 with(first
      |(refine ld_tr (by rfl) _ rfl bb (oo+j*5) rfl (trC k' n' t' (.slice pa pl pc) (.slice qa ql qc)) HR.out rfl ?_)
      |(refine st_agg rfl 28 _ _ rfl wr.heap.size (trC k' n' t' (.slice pa pl pc) (.slice qa ql qc)) rfl rfl 28 (trC 0 0 ⟨#[]⟩ (.slice none 0 0) (.slice none 0 0)) (heap_alloc_last _ _) tr_size rfl (by simp[Value.oneCell']) ?_;intro w3 h3 k3))
     have hb3:Below wr.heap.size wr w3:=(Below.newly' _ _).trans (k3.below (Nat.le_refl _));obtain⟨X,hX⟩:∃X,X=wr.heap.size:=⟨_,rfl⟩
     have HX3:=iH h3;rw[<-hX]at HX3 ⊢;replace HST:=iH (HST.out.later hb3);replace HW:=iH (HW.out.trans (hb3.mono (by have:=HN0.out;have h2:=HW.out.size;omega)));clear h3 k3 hb3 hX;go_upto_region 7 with(first
      |(refine ld_if rfl 28 _ rfl X rfl 28 _ _ _ HX3.out Tryz.underlying28 rfl tr_size ?_)
      |(go_at_call 12;(with_reducible refine(HCL.out _ HW.out).mono ?_);rintro r w4 ⟨yc,rfl,h5,hyt,hb⟩;have HS3:Hid (w.heap.size+2<=w3.heap.size):=(by show _<=_;have:=HN0.out;have h2:=HW.out.size;omega);obtain⟨k9,n9,t9,y1,y2,y3,y4,y5,y6,rfl⟩:=hyt.trv.cells;have HYT:=iH hyt;replace HST:=iH (HST.out.later hb);replace HW:=iH (HW.out.trans (hb.mono HS3.out));clear hb h5 hyt)
      |(refine st_agg rfl 28 _ _ rfl w4.heap.size (trC k9 n9 t9 (.slice y1 y2 y3) (.slice y4 y5 y6)) rfl rfl 28 (trC 0 0 ⟨#[]⟩ (.slice none 0 0) (.slice none 0 0)) (heap_alloc_last _ _) tr_size rfl (by simp[Value.oneCell']) ?_;intro w5 h6 k6))
     have hb6:Below w4.heap.size w4 w5:=(Below.newly' _ _).trans (k6.below (Nat.le_refl _));obtain⟨Y,hY⟩:∃Y,Y=w4.heap.size:=⟨_,rfl⟩
     have HY6:=iH h6;rw[<-hY]at HY6 ⊢;replace HST:=iH (HST.out.later hb6);replace HYT:=iH (HYT.out.later hb6);replace HW:=iH (HW.out.trans (hb6.mono (by have:=HN0.out;have h2:=HW.out.size;omega)));have c5k:w5.cell? ⟨w.heap.size,0,none⟩=some (.int .i64 5):=HXC.out w5 HW.out 0 _ rfl;clear h6 k6 hb6 hY HX3;go_upto_region 10 with fail
     clear c5k;have hjk:j<ks.length:=by rw[HKL.out.1];exact hlx
     obtain⟨yk,hyk⟩:∃yk,yk=ks[j]:=⟨_,rfl⟩
     have hkdd:kd=some ⟨kb1,ko,none⟩:=HKL.out.2.1 (by rw[HKL.out.2.2.2,HKL.out.1,<-HKL.out.2.2.1];omega);subst hkdd;have hks:=HKC.out j hjk;rw[<-hyk]at hks;have hlkN:N=lk:=by rw[HKL.out.2.2.2,HKL.out.1,HKL.out.2.2.1]
     subst hlkN;have HYK:=iH hyk;have HKS:Hid (∀V,Below w5.heap.size w5 V->V.cell? ⟨w.heap.size,3,none⟩=some (.slice (some ⟨kb1,ko,none⟩) N kcap)/\V.cell? ⟨kb1,ko+j,none⟩=some (.string yk)/\V.heap[Y]? =some (.cells (trC k9 n9 t9 (.slice y1 y2 y3) (.slice y4 y5 y6)) 28 (0,0))):=fun V hb=>⟨HXC.out V (HW.out.trans (hb.mono (by have:=HN0.out;have h2:=HW.out.size;omega))) 3 _ rfl,((HLOW.out V (HW.out.trans (hb.mono (by have:=HN0.out;have h2:=HW.out.size;omega)))).cell (World.block_lt_of_cell? w _ hks)).trans hks,(kW hb HY6.out)⟩
     have HPU:Hid (∀W,Below w5.heap.size w5 W->Calls Tryz.prog 37 #[kv,iv,.string yk,.agg (trC k9 n9 t9 (.slice y1 y2 y3) (.slice y4 y5 y6))] W fun r w'=>∃kv' iv',r=.returned (.tuple #[kv',iv'])/\MapC (w.heap.size+2) kv' iv' ks xs (j+1) w'/\Below W.heap.size W w'):=fun W hb=>HST.out.put (HYT.out.later hb) hb hlx HYE.out hjk HYK.out HKL.out.1 HTX.out ⟨HS3.out,by have:=HW.out.size;have:=HN0.out;omega⟩
     have HW5:Hid (Below w5.heap.size w5 w5.drew):=drawn_below w5;clear hks hyk;refine wp_region_T (S:=(fun V=>V.cell? ⟨w.heap.size,3,none⟩=some (.slice (some ⟨kb1,ko,none⟩) N kcap)/\V.cell? ⟨kb1,ko+j,none⟩=some (.string yk)/\V.heap[Y]? =some (.cells (trC k9 n9 t9 (.slice y1 y2 y3) (.slice y4 y5 y6)) 28 (0,0)))) [] (by kernel_rfl) (by exact HKS.out _ HW5.out) (fun hHeld=> ?_);refine tkL 0 27 (h:=?_);refine tkL 1 28 (h:=?_);(try simp only[pq]);refine tkL 2 29 (h:=?_);refine tkL 3 30 (h:=?_);(try simp only[pq]);refine tkL 4 31 (h:=?_);refine tkL 5 32 (h:=?_);(try simp only[pq]);refine tkL 6 33 (h:=?_);refine tyL 7 34 (hy:=yieldsIf_load_row (by rfl) 28 _ rfl Y rfl (trC k9 n9 t9 (.slice y1 y2 y3) (.slice y4 y5 y6)) 28 (0,0) _ (fun w hw=>hw.2.2) Tryz.underlying28 rfl (by exact tr_size)) (h:=?_);(try simp only[pq]);refine tkO 8 (some 35) (h:=fun K hK=> ?_);go_simp;go_at_call 37;(with_reducible refine(HPU.out _ (by exact HW5.out)).mono ?_);rintro r w7 ⟨kv7,iv7,rfl,hi7,hb⟩;have HFI:=iH hi7;replace HW5:=iH (tW HW5.out hb);clear hb hi7;dsimp only;refine hK.out _ _ (by exact HKS.out _ HW5.out) (fun hHeld=> ?_);clear hK K;(try simp only[pq]);refine tkL 9 26 (h:=?_);refine tkL 10 36 (h:=?_);(try simp only[pq]);refine tkL 11 37 (h:=?_);refine tkL 12 3 (h:=?_);(try simp only[pq]);refine tkL 13 4 (h:=?_);(try simp only[pq]);refine wpAnyT_done (by kernel_rfl) ?_ _;clear hHeld;have HBF:=iH (HW.out.trans (HW5.out.mono (by have:=HN0.out;have h2:=HW.out.size;omega)));go_wp2_with fail
     go_roundw
     case rel=>exact⟨j+1,_,_,by omega,by go_num,rfl,rfl,⟨_,rfl⟩,⟨_,rfl⟩,⟨_,rfl⟩,HFI.out,HBF.out⟩
     case measure=>simp[intOf];omega
    ·obtain rfl:N=j:=by omega
     have hlt':¬(N:Int)<(N:Int):=by omega
     obtain⟨ka7,kl7,kc7,rfl⟩:=hke;obtain⟨ia7,il7,ic7,rfl⟩:=hie;have HFI:=iH hst;clear hst;have cw0:wr.cell? ⟨w.heap.size,0,none⟩=some (.int .i64 5):=HXC.out wr HW.out 0 _ rfl;have cw1:wr.cell? ⟨w.heap.size,1,none⟩=some (.int .i64 n):=HXC.out wr HW.out 1 _ rfl;have cw2:wr.cell? ⟨w.heap.size,2,none⟩=some (.string t):=HXC.out wr HW.out 2 _ rfl;go_wp2_with (first
      |(refine st_agg rfl 28 _ _ rfl (w.heap.size+1) (trC 5 n t (.slice ka7 kl7 kc7) (.slice ia7 il7 ic7)) rfl rfl 28 _ (HRR.out _ HW.out) tr5_size rfl (one_tr ⟨_,_,_,rfl⟩ ⟨_,_,_,rfl⟩) ?_;intro w8 h8 k8))
     have hn0:=HN0.out;refine bodyPost_ret (results_cell_row rfl _ _ (w.heap.size+1) 28 _ (0,0) _ rfl h8 Tryz.underlying28 rfl tr5_size) rfl ⟨_,rfl,rfl,?_,HB2.out.trans ((HW.out.mono (by omega)).trans (k8.below (by omega)))⟩;refine(((show MapC _ _ _ _ _ xs.length _ by rw[<-HKL.out.2.2.1];exact HFI.out).fin HKL.out.1 HRNG.out.1 HRNG.out.2.2).kept (KT.grown k8.by_ fun Y e hY=> ?_)).weak fun g hg=> ?_
     ·cases e
      have:w.heap.size+2<=w.heap.size+1:=hY;omega
     ·have:w.heap.size+2<=g:=hg
      omega
  by_cases c6:k=6
  ·subst c6
   have HKL:=iH (And.intro trivial hNL);have HTX:Hid ((∀z∈xs,ValB (canT z))/\xs.length<=16383):=⟨hvb,by rw[<-hNL.2.1];exact hN4⟩
   clear hkl hNL hts hvb c5;have HXC:Hid (∀W,Below (w.heap.size+2) w2 W->∀(i:Nat) (u:Value),(trC 6 n t (.slice kd lk kcap) (.slice ad N cap))[i]? =some u->W.cell? ⟨w.heap.size,i,none⟩=some u):=fun W hb i u hu=>cell_in ((hb.block _ (by omega)).trans hx2) hu
   have HRR:Hid (∀W,Below (w.heap.size+2) w2 W->W.heap[w.heap.size+1]? =some (.cells (trC 0 0 ⟨#[]⟩ (.slice none 0 0) (.slice none 0 0)) 28 (0,0))):=fun W hb=>(hb.block _ (by omega)).trans hr2
   have HN0:Hid (w2.heap.size=w.heap.size+2):=hs2;have HB2:=iH hb2;have HW:Hid (Below (w.heap.size+2) w2 w2):=Below.refl _ _;have HS0:Hid (SetC (w.heap.size+2) (.slice none 0 0) (.slice none 0 0) xs 0 w2):=setC_nil;have cx4:w2.cell? ⟨w.heap.size,4,none⟩=some (.slice ad N cap):=cell_in hx2 rfl;clear hx2 hr2 hs2 hb2;go_enter Tryz.func12,Tryz.ntmps12;go_upto_region 1 with fail
   clear hw2;go_wp2_with fail
   clear cx4;go_loopw [3,4,5,6,7,11] (fun a3 a4 a5 a6 a7 i wl=>∃(j:Nat) (kv iv:Value),j<=N/\i=.int .i64 (j:Int)/\kv=a3/\iv=a4/\(∃c,c=a5)/\(∃c,c=a6)/\(∃c,c=a7)/\Hid (SetC (w.heap.size+2) kv iv xs j wl)/\Hid (Below (w.heap.size+2) w2 wl)) (fun _ _ _ _ _ i _=>N-(intOf i).toNat)
   case atStart=>exact⟨0,_,_,Nat.zero_le _,rfl,rfl,rfl,⟨_,rfl⟩,⟨_,rfl⟩,⟨_,rfl⟩,HS0.out,HW.out⟩
   case round=>
    clear HW HS0;obtain⟨j,kv,iv,hj,rfl,rfl,rfl,_,_,_,HI,HW⟩:=hrel;have hst:=HI.out;clear HI;have HJN:Hid (j<=N/\N<=16383):=⟨hj,hN4⟩
    have hie:=hst.shapes.2;by_cases hlt:j<N
    ·have hlt':(j:Int)<(N:Int):=by omega
     have i0:(0:Int)<=(j:Int):=by omega
     have hlx:j<xs.length:=by rw[<-HKL.out.2.2.1];exact hlt
     have had:ad=some ⟨bb,oo,none⟩:=HLO.out (by omega);subst had;obtain⟨cs,c1,c2,c3⟩:=HLC.out j hlx;have hmem:=List.getElem_mem hlx;obtain⟨y,hy⟩:∃y,y=xs[j]:=⟨_,rfl⟩
     have HYE:=iH hy;rw[<-hy]at c3 hmem;obtain⟨k',n',t',pa,pl,pc,qa,ql,qc,rfl⟩:=c3.cells;have HLOW:=iH (fun W (hb:Below (w.heap.size+2) w2 W)=>HB2.out.trans (hb.mono (by omega)));have HR:=iH (show wr.rangeAt bb (oo+j*5) (trC k' n' t' (.slice pa pl pc) (.slice qa ql qc)).toList from fun i v hv=>((HLOW.out _ HW.out).cell (World.block_lt_of_cell? w _ (c2 i v hv))).trans (c2 i v hv));have hp:=HPP.out y hmem;have HYB:=iH (valB_can hp.1 hp.2.1 hp.2.2.1 (trV_rng _ _ c3) hp.2.2.2);have HCL:Hid (∀W,Below (w.heap.size+2) w2 W->Calls Tryz.prog 12 #[.agg (trC k' n' t' (.slice pa pl pc) (.slice qa ql qc))] W fun e w'=>∃c,e=.returned (.agg c)/\c.size=5/\TrS (fun g=>W.heap.size<=g) w' (canT y) (.agg c)/\Below W.heap.size W w'):=fun W hW=>HIH.out y hmem _ W (c3.later (HLOW.out W hW)) hp.1 hp.2.1 hp.2.2.1 hp.2.2.2
     clear c1 c2 c3 hmem hy hp;obtain⟨wq,hwq⟩:∃wq,wq=wr:=⟨_,rfl⟩
     have HST:Hid (SetC (w.heap.size+2) kv iv xs j wr):=hst;clear hst hwq wq;go_upto_region 6 with(first
      |(refine ld_tr (by rfl) _ rfl bb (oo+j*5) rfl (trC k' n' t' (.slice pa pl pc) (.slice qa ql qc)) HR.out rfl ?_)
      |(refine st_agg rfl 28 _ _ rfl wr.heap.size (trC k' n' t' (.slice pa pl pc) (.slice qa ql qc)) rfl rfl 28 (trC 0 0 ⟨#[]⟩ (.slice none 0 0) (.slice none 0 0)) (heap_alloc_last _ _) tr_size rfl (by simp[Value.oneCell']) ?_;intro w3 h3 k3))
     have hb3:Below wr.heap.size wr w3:=(Below.newly' _ _).trans (k3.below (Nat.le_refl _));obtain⟨X,hX⟩:∃X,X=wr.heap.size:=⟨_,rfl⟩
     have HX3:=iH h3;rw[<-hX]at HX3 ⊢;replace HST:=iH (HST.out.later hb3);replace HW:=iH (HW.out.trans (hb3.mono (by have:=HN0.out;have h2:=HW.out.size;omega)));clear h3 k3 hb3 hX;go_upto_region 7 with(first
      |(refine ld_if rfl 28 _ rfl X rfl 28 _ _ _ HX3.out Tryz.underlying28 rfl tr_size ?_)
      |(go_at_call 12;(with_reducible refine(HCL.out _ HW.out).mono ?_);rintro r w4 ⟨yc,rfl,h5,hyt,hb⟩;have HS3:Hid (w.heap.size+2<=w3.heap.size):=(by show _<=_;have:=HN0.out;have h2:=HW.out.size;omega);obtain⟨k9,n9,t9,y1,y2,y3,y4,y5,y6,rfl⟩:=hyt.trv.cells;have HYT:=iH hyt;replace HST:=iH (HST.out.later hb);replace HW:=iH (HW.out.trans (hb.mono HS3.out));clear hb h5 hyt)
      |(refine st_agg rfl 28 _ _ rfl w4.heap.size (trC k9 n9 t9 (.slice y1 y2 y3) (.slice y4 y5 y6)) rfl rfl 28 (trC 0 0 ⟨#[]⟩ (.slice none 0 0) (.slice none 0 0)) (heap_alloc_last _ _) tr_size rfl (by simp[Value.oneCell']) ?_;intro w5 h6 k6))
     have hb6:Below w4.heap.size w4 w5:=(Below.newly' _ _).trans (k6.below (Nat.le_refl _));obtain⟨Y,hY⟩:∃Y,Y=w4.heap.size:=⟨_,rfl⟩
     have HY6:=iH h6;rw[<-hY]at HY6 ⊢;replace HST:=iH (HST.out.later hb6);replace HYT:=iH (HYT.out.later hb6);replace HW:=iH (HW.out.trans (hb6.mono (by have:=HN0.out;have h2:=HW.out.size;omega)));have c5k:w5.cell? ⟨w.heap.size,0,none⟩=some (.int .i64 6):=HXC.out w5 HW.out 0 _ rfl;clear h6 k6 hb6 hY HX3;go_upto_region 12 with fail
     clear c5k;have HKS:Hid (∀V,Below w5.heap.size w5 V->V.heap[Y]? =some (.cells (trC k9 n9 t9 (.slice y1 y2 y3) (.slice y4 y5 y6)) 28 (0,0))):=fun V hb=>(kW hb HY6.out)
     have HKY:Hid (∀W,Below w5.heap.size w5 W->Calls Tryz.prog 38 #[.agg (trC k9 n9 t9 (.slice y1 y2 y3) (.slice y4 y5 y6))] W fun r w'=>r=.returned (.string (kB (canT y)))/\Below W.heap.size W w'):=fun W hb=>rf_Key (canT y) _ W (HYT.out.later hb).trv HYB.out
     have HPU:Hid (∀W,Below w5.heap.size w5 W->Calls Tryz.prog 37 #[kv,iv,.string (kB (canT y)),.agg (trC k9 n9 t9 (.slice y1 y2 y3) (.slice y4 y5 y6))] W fun r w'=>∃kv' iv',r=.returned (.tuple #[kv',iv'])/\SetC (w.heap.size+2) kv' iv' xs (j+1) w'/\Below W.heap.size W w'):=fun W hb=>HST.out.put (HYT.out.later hb) hb hlx HYE.out HTX.out ⟨HS3.out,by have:=HW.out.size;have:=HN0.out;omega⟩
     have HW5:Hid (Below w5.heap.size w5 w5.drew):=drawn_below w5;refine wp_region_T (S:=(fun V=>V.heap[Y]? =some (.cells (trC k9 n9 t9 (.slice y1 y2 y3) (.slice y4 y5 y6)) 28 (0,0)))) [] (by kernel_rfl) (by exact HKS.out _ HW5.out) (fun hHeld=> ?_);refine tkL 0 41 (h:=?_);refine tkL 1 42 (h:=?_);(try simp only[pq]);refine tyL 2 43 (hy:=yieldsIf_load_row (by rfl) 28 _ rfl Y rfl (trC k9 n9 t9 (.slice y1 y2 y3) (.slice y4 y5 y6)) 28 (0,0) _ (fun w hw=>hw) Tryz.underlying28 rfl (by exact tr_size)) (h:=?_);refine tyL 4 45 (hy:=yieldsIf_load_row (by rfl) 28 _ rfl Y rfl (trC k9 n9 t9 (.slice y1 y2 y3) (.slice y4 y5 y6)) 28 (0,0) _ (fun w hw=>hw) Tryz.underlying28 rfl (by exact tr_size)) (h:=?_);(try simp only[pq]);refine tkO 3 (some 44) (h:=fun K hK=> ?_);go_simp;go_at_call 38;(with_reducible refine(HKY.out _ (by exact HW5.out)).mono ?_);rintro r w6 ⟨rfl,hb⟩;replace HW5:=iH (tW HW5.out hb);clear hb;dsimp only;refine hK.out _ _ (by exact HKS.out _ HW5.out) (fun hHeld=> ?_);clear hK K;(try simp only[pq]);refine tkO 5 (some 46) (h:=fun K hK=> ?_);go_simp;go_at_call 37;(with_reducible refine(HPU.out _ (by exact HW5.out)).mono ?_);rintro r w7 ⟨kv7,iv7,rfl,hi7,hb⟩;have HFI:=iH hi7;replace HW5:=iH (tW HW5.out hb);clear hb hi7;dsimp only;refine hK.out _ _ (by exact HKS.out _ HW5.out) (fun hHeld=> ?_);clear hK K;(try simp only[pq]);refine tkL 6 40 (h:=?_);refine tkL 7 47 (h:=?_);(try simp only[pq]);refine tkL 8 48 (h:=?_);refine tkL 9 3 (h:=?_);(try simp only[pq]);refine tkL 10 4 (h:=?_);(try simp only[pq]);refine wpAnyT_done (by kernel_rfl) ?_ _;clear hHeld;have HBF:=iH (HW.out.trans (HW5.out.mono (by have:=HN0.out;have h2:=HW.out.size;omega)));go_wp2_with fail
     go_roundw
     case rel=>exact⟨j+1,_,_,by omega,by go_num,rfl,rfl,⟨_,rfl⟩,⟨_,rfl⟩,⟨_,rfl⟩,HFI.out,HBF.out⟩
     case measure=>simp[intOf];omega
    ·obtain rfl:N=j:=by omega
     have hlt':¬(N:Int)<(N:Int):=by omega
     skip
     obtain⟨ia7,il7,ic7,rfl⟩:=hie;have HFI:=iH hst;clear hst;have cw0:wr.cell? ⟨w.heap.size,0,none⟩=some (.int .i64 6):=HXC.out wr HW.out 0 _ rfl;have cw1:wr.cell? ⟨w.heap.size,1,none⟩=some (.int .i64 n):=HXC.out wr HW.out 1 _ rfl;have cw2:wr.cell? ⟨w.heap.size,2,none⟩=some (.string t):=HXC.out wr HW.out 2 _ rfl;go_wp2_with (first
      |(refine st_agg rfl 28 _ _ rfl (w.heap.size+1) (trC 6 n t (.slice none 0 0) (.slice ia7 il7 ic7)) rfl rfl 28 _ (HRR.out _ HW.out) tr5_size rfl (one_tr ⟨_,_,_,rfl⟩ ⟨_,_,_,rfl⟩) ?_;intro w8 h8 k8))
     have hn0:=HN0.out;refine bodyPost_ret (results_cell_row rfl _ _ (w.heap.size+1) 28 _ (0,0) _ rfl h8 Tryz.underlying28 rfl tr5_size) rfl ⟨_,rfl,rfl,?_,HB2.out.trans ((HW.out.mono (by omega)).trans (k8.below (by omega)))⟩;refine(((show SetC _ _ _ _ xs.length _ by rw[<-HKL.out.2.2.1];exact HFI.out).fin HRNG.out.1 HRNG.out.2.2).kept (KT.grown k8.by_ fun Y e hY=> ?_)).weak fun g hg=> ?_
     ·cases e
      have:w.heap.size+2<=w.heap.size+1:=hY;omega
     ·have:w.heap.size+2<=g:=hg
      omega
  ·have HKL:=iH (And.intro trivial hNL)
   have HKN:Hid (k≠5/\k≠6):=⟨c5,c6⟩
   clear hkl hNL hts hvb;have HXC:Hid (∀W,Below (w.heap.size+2) w2 W->∀(i:Nat) (u:Value),(trC k n t (.slice kd lk kcap) (.slice ad N cap))[i]? =some u->W.cell? ⟨w.heap.size,i,none⟩=some u):=fun W hb i u hu=>cell_in ((hb.block _ (by omega)).trans hx2) hu
   have HRR:Hid (∀W,Below (w.heap.size+2) w2 W->W.heap[w.heap.size+1]? =some (.cells (trC 0 0 ⟨#[]⟩ (.slice none 0 0) (.slice none 0 0)) 28 (0,0))):=fun W hb=>(hb.block _ (by omega)).trans hr2
   have HN0:Hid (w2.heap.size=w.heap.size+2):=hs2;have HB2:=iH hb2;have HW:Hid (Below (w.heap.size+2) w2 w2):=Below.refl _ _;have HS0:Hid (∃css,VecC (w.heap.size+2) (.slice none 0 0) xs css 0 w2):=⟨[],vecC_nil (by omega)⟩
   have cx4:w2.cell? ⟨w.heap.size,4,none⟩=some (.slice ad N cap):=cell_in hx2 rfl;clear hx2 hr2 hs2 hb2;go_enter Tryz.func12,Tryz.ntmps12;go_upto_region 1 with fail
   clear hw2;go_wp2_with fail
   clear cx4;go_loopw [3,4,5,6,7,11] (fun a3 a4 a5 a6 a7 i wl=>∃(j:Nat) (kv iv:Value),j<=N/\i=.int .i64 (j:Int)/\kv=a3/\iv=a4/\(∃c,c=a5)/\(∃c,c=a6)/\(∃c,c=a7)/\kv=.slice none 0 0/\Hid (∃css,VecC (w.heap.size+2) iv xs css j wl)/\Hid (Below (w.heap.size+2) w2 wl)) (fun _ _ _ _ _ i _=>N-(intOf i).toNat)
   case atStart=>exact⟨0,_,_,Nat.zero_le _,rfl,rfl,rfl,⟨_,rfl⟩,⟨_,rfl⟩,⟨_,rfl⟩,rfl,HS0.out,HW.out⟩
   case round=>
    clear HW HS0;obtain⟨j,kv,iv,hj,rfl,rfl,rfl,_,_,_,rfl,HI,HW⟩:=hrel;obtain⟨css,hst⟩:=HI.out;clear HI;have HJN:Hid (j<=N/\N<=16383):=⟨hj,hN4⟩
    have hie:∃a l c,iv=.slice a l c:=by obtain⟨a,c,e⟩:=hst.1.own.shape';exact⟨a,_,c,e⟩
    by_cases hlt:j<N
    ·have hlt':(j:Int)<(N:Int):=by omega
     have i0:(0:Int)<=(j:Int):=by omega
     have hlx:j<xs.length:=by rw[<-HKL.out.2.2.1];exact hlt
     have had:ad=some ⟨bb,oo,none⟩:=HLO.out (by omega);subst had;obtain⟨cs,c1,c2,c3⟩:=HLC.out j hlx;have hmem:=List.getElem_mem hlx;obtain⟨y,hy⟩:∃y,y=xs[j]:=⟨_,rfl⟩
     have HYE:=iH hy;rw[<-hy]at c3 hmem;obtain⟨k',n',t',pa,pl,pc,qa,ql,qc,rfl⟩:=c3.cells;have HLOW:=iH (fun W (hb:Below (w.heap.size+2) w2 W)=>HB2.out.trans (hb.mono (by omega)));have HR:=iH (show wr.rangeAt bb (oo+j*5) (trC k' n' t' (.slice pa pl pc) (.slice qa ql qc)).toList from fun i v hv=>((HLOW.out _ HW.out).cell (World.block_lt_of_cell? w _ (c2 i v hv))).trans (c2 i v hv));have hp:=HPP.out y hmem;have HYB:=iH (valB_can hp.1 hp.2.1 hp.2.2.1 (trV_rng _ _ c3) hp.2.2.2);have HCL:Hid (∀W,Below (w.heap.size+2) w2 W->Calls Tryz.prog 12 #[.agg (trC k' n' t' (.slice pa pl pc) (.slice qa ql qc))] W fun e w'=>∃c,e=.returned (.agg c)/\c.size=5/\TrS (fun g=>W.heap.size<=g) w' (canT y) (.agg c)/\Below W.heap.size W w'):=fun W hW=>HIH.out y hmem _ W (c3.later (HLOW.out W hW)) hp.1 hp.2.1 hp.2.2.1 hp.2.2.2
     clear c1 c2 c3 hmem hy hp;obtain⟨wq,hwq⟩:∃wq,wq=wr:=⟨_,rfl⟩
     have HST:Hid (VecC (w.heap.size+2) iv xs css j wr):=hst;clear hst hwq wq;go_upto_region 6 with(first
      |(refine ld_tr (by rfl) _ rfl bb (oo+j*5) rfl (trC k' n' t' (.slice pa pl pc) (.slice qa ql qc)) HR.out rfl ?_)
      |(refine st_agg rfl 28 _ _ rfl wr.heap.size (trC k' n' t' (.slice pa pl pc) (.slice qa ql qc)) rfl rfl 28 (trC 0 0 ⟨#[]⟩ (.slice none 0 0) (.slice none 0 0)) (heap_alloc_last _ _) tr_size rfl (by simp[Value.oneCell']) ?_;intro w3 h3 k3))
     have hb3:Below wr.heap.size wr w3:=(Below.newly' _ _).trans (k3.below (Nat.le_refl _));obtain⟨X,hX⟩:∃X,X=wr.heap.size:=⟨_,rfl⟩
     have HX3:=iH h3;rw[<-hX]at HX3 ⊢;replace HST:=iH (HST.out.later hb3);replace HW:=iH (HW.out.trans (hb3.mono (by have:=HN0.out;have h2:=HW.out.size;omega)));clear h3 k3 hb3 hX;go_upto_region 7 with(first
      |(refine ld_if rfl 28 _ rfl X rfl 28 _ _ _ HX3.out Tryz.underlying28 rfl tr_size ?_)
      |(go_at_call 12;(with_reducible refine(HCL.out _ HW.out).mono ?_);rintro r w4 ⟨yc,rfl,h5,hyt,hb⟩;have HS3:Hid (w.heap.size+2<=w3.heap.size):=(by show _<=_;have:=HN0.out;have h2:=HW.out.size;omega);obtain⟨k9,n9,t9,y1,y2,y3,y4,y5,y6,rfl⟩:=hyt.trv.cells;have HYT:=iH hyt;have HST4:=iH (HST.out.new hb hyt);replace HST:=iH (HST.out.later hb);replace HW:=iH (HW.out.trans (hb.mono HS3.out));clear hb h5 hyt)
      |(refine st_agg rfl 28 _ _ rfl w4.heap.size (trC k9 n9 t9 (.slice y1 y2 y3) (.slice y4 y5 y6)) rfl rfl 28 (trC 0 0 ⟨#[]⟩ (.slice none 0 0) (.slice none 0 0)) (heap_alloc_last _ _) tr_size rfl (by simp[Value.oneCell']) ?_;intro w5 h6 k6))
     have hb6:Below w4.heap.size w4 w5:=(Below.newly' _ _).trans (k6.below (Nat.le_refl _));obtain⟨Y,hY⟩:∃Y,Y=w4.heap.size:=⟨_,rfl⟩
     have HY6:=iH h6;rw[<-hY]at HY6 ⊢;replace HST:=iH (HST.out.later hb6);replace HST4:=iH (HST4.out.later hb6);replace HYT:=iH (HYT.out.later hb6);replace HW:=iH (HW.out.trans (hb6.mono (by have:=HN0.out;have h2:=HW.out.size;omega)));have c5k:w5.cell? ⟨w.heap.size,0,none⟩=some (.int .i64 k):=HXC.out w5 HW.out 0 _ rfl;clear h6 k6 hb6 hY HX3;go_wp2_with (first
      |(refine ld_if rfl 28 _ rfl Y rfl 28 _ _ _ HY6.out Tryz.underlying28 rfl tr_size ?_)
      |(refine bs_list rfl 26 28 _ rfl (trC k9 n9 t9 (.slice y1 y2 y3) (.slice y4 y5 y6)) 5 (.agg (trC 0 0 ⟨#[]⟩ (.slice none 0 0) (.slice none 0 0))) rfl rfl (by decide) (by decide) Tryz.underlying26 trl_info ?_;intro wl hl hbl hzl;have HL:=iH hl;replace HST4:=iH (HST4.out.later hbl);replace HW:=iH (HW.out.trans (hbl.mono (by have:=HN0.out;have h2:=HW.out.size;omega)));clear hl hbl hzl)
      |(refine wpList_plain rfl fun _ hK=>rowsW_wp 26 28 _ _ rfl (by_:=80) (z:=.agg (trC 0 0 ⟨#[]⟩ (.slice none 0 0) (.slice none 0 0))) (c:=(trC k9 n9 t9 (.slice y1 y2 y3) (.slice y4 y5 y6))) rfl HST4.out.1.1 _ _ rfl HL.out rfl (one_tr ⟨_,_,_,rfl⟩ ⟨_,_,_,rfl⟩) Tryz.underlying26 trl_info3 rfl (by decide) (by have:=HST4.out.1.2.1;have:=HJN.out;omega) (by decide) ?_;intro v7 w7 hr hg hn;refine hK _ _ ?_;have HFI:=iH (And.intro hr (And.intro hg hn));have HBF:=iH (HW.out.trans (HST4.out.1.1.below' hg (Nat.le_refl _) (by have:=HN0.out;have h2:=HW.out.size;omega)));clear hr hg hn hK))
     have hnx:=HST4.out.next hlx HYE.out rfl HFI.out.1 HFI.out.2.1 HFI.out.2.2;go_roundw
     case rel=>exact⟨j+1,_,_,by omega,by go_num,rfl,rfl,⟨_,rfl⟩,⟨_,rfl⟩,⟨_,rfl⟩,rfl,hnx,HBF.out⟩
     case measure=>simp[intOf];omega
    ·obtain rfl:N=j:=by omega
     have hlt':¬(N:Int)<(N:Int):=by omega
     skip
     obtain⟨ia7,il7,ic7,rfl⟩:=hie;have HFI:=iH hst;clear hst;have cw0:wr.cell? ⟨w.heap.size,0,none⟩=some (.int .i64 k):=HXC.out wr HW.out 0 _ rfl;have cw1:wr.cell? ⟨w.heap.size,1,none⟩=some (.int .i64 n):=HXC.out wr HW.out 1 _ rfl;have cw2:wr.cell? ⟨w.heap.size,2,none⟩=some (.string t):=HXC.out wr HW.out 2 _ rfl;go_wp2_with (first
      |(refine st_agg rfl 28 _ _ rfl (w.heap.size+1) (trC k n t (.slice none 0 0) (.slice ia7 il7 ic7)) rfl rfl 28 _ (HRR.out _ HW.out) tr5_size rfl (one_tr ⟨_,_,_,rfl⟩ ⟨_,_,_,rfl⟩) ?_;intro w8 h8 k8))
     have hn0:=HN0.out;refine bodyPost_ret (results_cell_row rfl _ _ (w.heap.size+1) 28 _ (0,0) _ rfl h8 Tryz.underlying28 rfl tr5_size) rfl ⟨_,rfl,rfl,?_,HB2.out.trans ((HW.out.mono (by omega)).trans (k8.below (by omega)))⟩;refine(((show VecC _ _ _ _ xs.length _ by rw[<-HKL.out.2.2.1];exact HFI.out).fin HKN.out.1 HKN.out.2 HRNG.out.1 HRNG.out.2.1 HRNG.out.2.2).kept (KT.grown k8.by_ fun Y e hY=> ?_)).weak fun g hg=> ?_
     ·cases e
      have:w.heap.size+2<=w.heap.size+1:=hY;omega
     ·have:w.heap.size+2<=g:=hg
      omega
end Go.Proofs.YtengibnpebfblaaGreatDoor
