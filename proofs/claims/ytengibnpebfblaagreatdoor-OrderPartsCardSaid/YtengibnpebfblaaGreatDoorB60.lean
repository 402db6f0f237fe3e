import Derived.Test.YtengibnpebfblaaGreatDoorB46
set_option maxRecDepth 1000000
set_option maxHeartbeats 8000000
set_option linter.unusedSimpArgs false
namespace Go.Proofs.YtengibnpebfblaaGreatDoor
open Go.RowKit Go.ChangeShapes Go.WideShapes Go.ChangeAt
theorem get_snocP {α:Type} {l:List α} {a:α} {j:Nat} (h:j<(l++[a]).length):(∃h':j<l.length,(l++[a])[j]=l[j])\/(j=l.length/\(l++[a])[j]=a):=by
 rw[List.length_append,List.length_singleton]at h;rcases Nat.lt_or_ge j l.length with hj|hj
 ·exact .inl ⟨hj,List.getElem_append_left hj⟩
 ·obtain rfl:j=l.length:=by omega
  exact .inr ⟨rfl,by rw[List.getElem_append_right (Nat.le_refl _)];simp⟩
theorem trLs_rowsP {B:Nat} {v:Value} {css:List (Array Value)} {l:List Tr} {W:World} (h:RowsW B 28 5 v css W) (hl:css.length=l.length) (hm:l.length<=200000) (ht:∀j (h:j<l.length) (h':j<css.length),TrV W l[j] (.agg css[j])):TrLs W v l:=by
 have h1:=lsT_cut h.own.lsT;rw[hl]at h1;obtain⟨a,c,rfl,_⟩:=h1.shape;have hmx:l.length<=maxLen:=by unfold maxLen;omega
 by_cases h0:0<l.length
 ·obtain⟨g,o,c',e,_,_,_,h2⟩:=h1.pos h0
  simp only[Value.slice.injEq]at e;refine⟨a,c,g,o,rfl,hmx,fun _=>e.1,fun j hj=> ?_⟩;have hj':j<css.length:=by rw[hl];exact hj
  refine⟨css[j],h.2.2 _ (List.getElem_mem hj'),ht j hj hj',fun i u hu=> ?_⟩;have h3:=flat_get 5 css j i css[j] h.2.2 (List.getElem?_eq_getElem hj') (by have:=(List.getElem?_eq_some_iff.1 hu).1;rw[Array.length_toList,h.2.2 _ (List.getElem_mem hj')]at this;exact this);have h4:=h2 (j*5+i) u (by rw[h3,<-Array.getElem?_toList];exact hu);rw[<-Nat.add_assoc]at h4;exact h4
 ·exact⟨a,c,0,0,rfl,hmx,fun h=>absurd h h0,fun j hj=>absurd (Nat.lt_of_le_of_lt (Nat.zero_le _) hj) h0⟩
theorem trees_openP {H:Type} {enc:TypeId×Value->H} {W:World} {sp:Nat->Bool} {held:Bool} {r:Reach} {b0 base:Nat} {v:Value} {d:DataW H} {ps:List MemPlace}
  (hval:Value.okWide Tryz.prog W r b0 26 v) (hd:DataW.Trod enc Tryz.prog W base sp held 26 v d ps):∃l,TrLs W v l:=by
 obtain⟨l,a,cap,b,o,h1,h2,h3,h4⟩:=list_open (c:=5) nullT (by decide) (R:=fun y p=>∃cs:Array Value,cs.size=5/\TrV W y (.agg cs)/\∀j u,cs.toList[j]? =some u->W.cell? (p.add j)=some u) Tryz.underlying26 (by kernel_rfl) hval hd fun n cs x a hc h=>by
  obtain⟨_,hl,hat⟩:=World.cells?_some hc;obtain⟨y,hy⟩:=tr_trod _ x.1 (Nat.le_refl _) _ _ _ h hl;refine⟨y,cs.toArray,by simpa using hl,hy,fun j u hu=> ?_⟩;have hj:j<cs.length:=by have:=(List.getElem?_eq_some_iff.1 hu).1;simpa using this
  have h5:=hat j (by omega);rw[h5];simpa using hu
 refine⟨l,a,cap,b,o,h1,h4,h2,fun j hj=> ?_⟩;obtain⟨cs,e,hv,hc⟩:=h3 j hj;refine⟨cs,e,hv,fun i u hu=> ?_⟩;have h6:=hc i u hu;rw[show(⟨b,o+j*5,none⟩:Addr).add i=⟨b,o+j*5+i,none⟩ by unfold Addr.add;split<;>simp_all]at h6;exact h6
theorem oks_ofP {l:List Tr} (h:(l.all okR&&decide (l.length<=12))=true):(∀x∈l,okR x=true)/\l.length<=12:=by
 have h1:=Bool.and_eq_true_iff.1 h;exact⟨List.all_eq_true.1 h1.1,of_decide_eq_true h1.2⟩
theorem trls_rngP {W:World} {v:Value} {l:List Tr} (h:TrLs W v l):∀x∈l,RngT x:=fun x hx=>by
 obtain⟨a,c,b,o,_,_,_,h4⟩:=h;obtain⟨j,hj,rfl⟩:=List.mem_iff_getElem.1 hx;obtain⟨cs,_,h5,_⟩:=h4 j hj;exact trV_rng _ _ h5
theorem ord_same (c:UInt8) (a b:List UInt8):orderS (c::a) (c::b)=orderS a b:=by
 unfold orderS;have h:(c::a<c::b)↔a<b:=by rw[List.cons_lt_cons_iff];simp
 by_cases h1:a=b
 ·simp[h1]
 ·by_cases h2:a<b
  ·rw[if_neg (by simp[h1]),if_pos (h.2 h2),if_neg h1,if_pos h2]
  ·rw[if_neg (by simp[h1]),if_neg (fun e=>h2 (h.1 e)),if_neg h1,if_neg h2]
theorem ord_apart (c d:UInt8) (a b:List UInt8) (h:c≠d):orderS (c::a) (d::b)=if c<d then-1 else 1:=by
 unfold orderS;rw[if_neg (by simp[h])];have h:(c::a<d::b)↔c<d:=by rw[List.cons_lt_cons_iff];simp[h]
 by_cases h2:c<d
 ·rw[if_pos (h.2 h2),if_pos h2]
 ·rw[if_neg (fun e=>h2 (h.1 e)),if_neg h2]
theorem ord_ahead (p a b:List UInt8):orderS (p++a) (p++b)=orderS a b:=by
 induction p with
 |nil=>rfl
 |cons c p ih=>rw[List.cons_append,List.cons_append,ord_same,ih]
theorem ord_cut:∀(a b r s:List UInt8),(¬ ∃t,b=a++t)->(¬ ∃t,a=b++t)->orderS (a++r) (b++s)=orderS a b
 |[],b,_,_,h,_=>absurd ⟨b,rfl⟩ h
 |c::a,[],_,_,_,h=>absurd ⟨c::a,rfl⟩ h
 |c::a,d::b,r,s,h1,h2=>by
  rw[List.cons_append,List.cons_append];by_cases e:c=d
  ·subst e
   rw[ord_same,ord_same];exact ord_cut a b r s (fun⟨t,e⟩=>h1 ⟨t,by rw[e];rfl⟩) (fun⟨t,e⟩=>h2 ⟨t,by rw[e];rfl⟩)
  ·rw[ord_apart _ _ _ _ e,ord_apart _ _ _ _ e]
theorem keyL_app:∀(l m:List Tr),keyL 4 [] (l++m)=keyL 4 [] l++keyL 4 [] m
 |[],m=>by rw[keyL];rfl
 |x::l,m=>by
  rw[List.cons_append,keyL,keyL,if_neg (by decide),List.nil_append,List.nil_append,List.tail_nil,keyL_app l m,List.append_assoc]
theorem keyL_cons (x:Tr) (l:List Tr):keyL 4 [] (x::l)=keyT x++keyL 4 [] l:=by
 rw[keyL,if_neg (by decide),List.nil_append,List.tail_nil]
theorem key_vec (l:List Tr):keyT (.nd 4 0 ⟨#[]⟩ [] l)=5::(keyL 4 [] l++[0]):=by
 rw[keyT,if_neg (by decide)];rfl
theorem ordT_turn (p r:List Tr) {a b:Tr} (ha:Good a) (hb:Good b):ordT (.nd 4 0 ⟨#[]⟩ [] (p++a::r)) (.nd 4 0 ⟨#[]⟩ [] (p++b::r))=ordT a b:=by
 unfold ordT;rw[key_vec,key_vec,ord_same,keyL_app,keyL_app,List.append_assoc,List.append_assoc,ord_ahead,keyL_cons,keyL_cons,List.append_assoc,List.append_assoc];by_cases e:a=b
 ·subst e
  rw[(orderS_zero _ _).2 rfl,(orderS_zero _ _).2 rfl]
 ·refine ord_cut _ _ _ _ (fun⟨t,h⟩=>e ?_) (fun⟨t,h⟩=>e ?_)
  ·exact(tr_apart a b t [] ha hb (by rw[List.append_nil];exact h.symm)).1
  ·exact(tr_apart a b [] t ha hb (by rw[List.append_nil];exact h)).1
theorem ordT_more (l:List Tr) {a:Tr} (ha:Good a):ordT (.nd 4 0 ⟨#[]⟩ [] l) (.nd 4 0 ⟨#[]⟩ [] (l++[a]))= -1:=by
 unfold ordT;rw[key_vec,key_vec,ord_same,keyL_app,List.append_assoc,ord_ahead,keyL_cons];obtain⟨⟨r,hr⟩,h0,h6⟩:=key_first ha;rw[hr,List.cons_append,List.cons_append,ord_apart]
 ·rcases(by omega:a.k=0\/a.k=1\/a.k=2\/a.k=3\/a.k=4\/a.k=5\/a.k=6)with h|h|h|h|h|h|h<;>(rw[h];decide)
 ·rcases(by omega:a.k=0\/a.k=1\/a.k=2\/a.k=3\/a.k=4\/a.k=5\/a.k=6)with h|h|h|h|h|h|h<;>(rw[h];decide)
theorem ordT_less (l:List Tr) {a:Tr} (ha:Good a):ordT (.nd 4 0 ⟨#[]⟩ [] (l++[a])) (.nd 4 0 ⟨#[]⟩ [] l)=1:=by
 have h:=ordT_more l ha;unfold ordT at*
 rw[orderS_neg,h];rfl
abbrev vecT (l:List Tr):Tr:=.nd 4 0 ⟨#[]⟩ [] l
theorem vec_ok {l:List Tr} (h:∀x∈l,OkT x):OkT (vecT l):=okT_iff.2 ⟨own_ok.2 (.inr ⟨rfl,rfl,.inl ⟨rfl,rfl⟩⟩),h,fun e=>absurd (show(4:Int)=6 from e) (by decide)⟩
theorem vec_dep (l:List Tr):depT (vecT l)=depL l+1:=depT_eq _
theorem vec_nod (l:List Tr):nodT (vecT l)=nodL l+1:=nodT_eq _
theorem vec_can (l:List Tr):canT (vecT l)=vecT (l.map canT):=by
 show canT (.nd 4 0 ⟨#[]⟩ [] l)=_;rw[canT,if_neg (by decide),if_neg (by decide),canL_map]
theorem vec_few {l:List Tr} (h:∀x∈l,FewT 2000 x):FewT 2000 (vecT l):=fewT_iff.2 ⟨Nat.zero_le _,h⟩
theorem vec_txt {l:List Tr} (h:∀x∈l,TxtT 3000 x):TxtT 3000 (vecT l):=txtT_iff.2 ⟨Nat.zero_le _,(fun k h=>by cases (show k∈([]:List ByteArray)from h)),h⟩
theorem vec_good {l:List Tr} (h:∀x∈l,Good x):Good (vecT l):=good_iff.2 ⟨h,.inr ⟨rfl,rfl,.inl ⟨rfl,rfl⟩⟩⟩
theorem put_nod (n:Nat) (l:List Tr) (x:Tr):nodL (putN n l x)=nodL l+nodT x:=by
 have h:nodL (l.take n++l.drop n)=nodL l:=by rw[List.take_append_drop]
 rw[nodL_app]at h;unfold putN;rw[nodL_app,nodL];omega
theorem put_dep (n:Nat) (l:List Tr) (x:Tr):depL (putN n l x)=max (depT x) (depL l):=by
 have h:depL (l.take n++l.drop n)=depL l:=by rw[List.take_append_drop]
 rw[depL_app]at h;unfold putN;rw[depL_app,depL];omega
theorem parts_all {l:List Tr} {a b:Tr} (hl:∀x∈l,OkT x/\FewT 2000 x/\TxtT 3000 x/\ValB (canT x)) (ha:OkT a) (hb:OkT b) (hc:chkT (vecT (l++[a,b]))=0):
  chkT (vecT l)=0/\FewT 2000 (vecT l)/\TxtT 3000 (vecT l)/\nodT (vecT l)<=16384/\ValB (vecT (l.map canT))/\(∀x,x=a\/x=b->∀n,n<=l.length->ValB (canT x)->insT (vecT (l.map canT)) (n:Int) (canT x)=(vecT (putN n (l.map canT) (canT x)),0)/\ValB (vecT (putN n (l.map canT) (canT x)))):=by
 obtain⟨h1,h2,h3⟩:=chkT_ok.1 hc;rw[vec_dep,depL_app,depL,depL,depL]at h2;rw[vec_nod,nodL_app,nodL,nodL,nodL]at h3;have hok:=vec_ok fun x hx=>(hl x hx).1
 have hsz:=can_size (vecT l) hok;rw[vec_can,vec_dep,vec_dep,vec_nod,vec_nod]at hsz;have hg:∀y∈l.map canT,ValB y:=fun y hy=>by
  obtain⟨x,hx,rfl⟩:=List.mem_map.1 hy;exact(hl x hx).2.2.2
 refine⟨chkT_ok.2 ⟨hok,by rw[vec_dep];omega,by rw[vec_nod];omega⟩,vec_few fun x hx=>(hl x hx).2.1,vec_txt fun x hx=>(hl x hx).2.2.1,by rw[vec_nod];omega,⟨⟨vec_good fun y hy=>(hg y hy).1.1,by rw[vec_dep];omega,by rw[vec_nod];omega⟩,vec_txt fun y hy=>(hg y hy).2⟩,fun x hx n hn hv=> ?_⟩;have hxs:nodT (canT x)+nodL l+1<=16384/\depT (canT x)+1<=64:=by
  have h4:=can_size x (by rcases hx with rfl|rfl<;>assumption);rcases hx with rfl|rfl<;>omega
 have hd:depT (vecT (putN n (l.map canT) (canT x)))<=64:=by rw[vec_dep,put_dep];omega
 have hn2:nodT (vecT (putN n (l.map canT) (canT x)))<=16384:=by rw[vec_nod,put_nod];omega
 have hmem:∀y∈putN n (l.map canT) (canT x),ValB y:=fun y hy=>by
  rcases List.mem_cons.1 ((putN_perm n _ _).mem_iff.1 hy)with rfl|h
  ·exact hv
  ·exact hg y h
 refine⟨?_,⟨⟨vec_good fun y hy=>(hmem y hy).1.1,hd,hn2⟩,vec_txt fun y hy=>(hmem y hy).2⟩⟩;unfold insT;rw[if_neg (by show¬(4:Int)≠4;decide),if_neg (by show¬((n:Int)<0\/(((l.map canT).length:Nat):Int)<(n:Int));rw[List.length_map];omega)];show withinT (vecT (putN ((n:Int)).toNat (l.map canT) (canT x)))=_;rw[Int.toNat_natCast];unfold withinT;rw[if_neg (by omega),if_neg (by omega)]
theorem parts_turn (L:List Tr) (n:Nat) {a b:Tr} (ha:Good a) (hb:Good b):ordT (vecT (putN n L a)) (vecT (putN n L b))=ordT a b:=ordT_turn _ _ ha hb
theorem parts_end (L:List Tr) (a:Tr):putN L.length L a=L++[a]:=by unfold putN;rw[List.take_length,List.drop_length]
end Go.Proofs.YtengibnpebfblaaGreatDoor
