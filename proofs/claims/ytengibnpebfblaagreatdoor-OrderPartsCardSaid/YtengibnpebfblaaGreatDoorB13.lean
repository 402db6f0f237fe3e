import Derived.Test.YtengibnpebfblaaGreatDoorB12
set_option maxRecDepth 1000000
set_option maxHeartbeats 8000000
set_option linter.unusedSimpArgs false
namespace Go.Proofs.YtengibnpebfblaaGreatDoor
open Go.RowKit Go.Shelf Go.Lib Go.Sort
theorem sw_block {α:Type} [Inhabited α] (enc:α->Value) (w:World) (blk off m:Nat) (dk:Array α) (os:Array Obj) {b:Nat} (hb:b<w.heap.size) (hne:b≠blk):(sortWorld enc w blk off m dk os).heap[b]? =w.heap[b]? :=by
 unfold sortWorld grow putRow mapBlock;simp only;rw[Array.getElem?_append_left (by simp;exact hb),Array.getElem?_modify,if_neg (fun e=>hne e.symm)];rfl
theorem sw_below {α:Type} [Inhabited α] (enc:α->Value) (w:World) (blk off m:Nat) (dk:Array α) (os:Array Obj) {B:Nat} (hB:B<=w.heap.size) (hblk:B<=blk):Below B w (sortWorld enc w blk off m dk os):=
 ⟨rfl,rfl,rfl,by simp[sortWorld,grow,putRow,mapBlock],fun k hk=>sw_block enc w blk off m dk os (by omega) (by omega)⟩
theorem sw_same {α:Type} [Inhabited α] (enc:α->Value) (w:World) (blk off m:Nat) (d:Array α) (os:Array Obj) (hH:Holds enc w blk off d):Below w.heap.size w (sortWorld enc w blk off m d os):=by
 unfold sortWorld;rw[putRow_self enc (Sort.ahead w m) blk off d (fun j hj=>hH j hj)];exact⟨rfl,rfl,rfl,by simp[grow,Sort.ahead],fun k hk=>by
  simp only[grow,Sort.ahead];rw[Array.getElem?_append_left hk]⟩
theorem hm_search1 (hs:ByteArray->Nat) (b:Nat) (e:Ent) (k:ByteArray) (w:World) {fr:Nat×Nat} (h:w.heap[b]? =some (.cells (entC hs e) 163 fr)):
  Calls Tryz.prog 145 #[pv (some b),.string k] w fun r w'=>r=.returned (.int .i64 (orderS (kb e.1) (kb k)))/\w'=w:=by
 have c0:w.cell? ⟨b,0,none⟩=some (.string e.1):=cell_in h rfl;have HO:=iH (fun w=>q_Order e.1 k w);unfold pv;clear h;go_enter Tryz.func145,Tryz.ntmps145;go_wp2_with (go_at_call 40;refine(HO.out _).mono ?_;rintro r w1 ⟨rfl,hw⟩;obtain rfl:=hw)
 go_ret;exact⟨rfl,rfl⟩
def cftK (k:ByteArray) (e:Ent):Int:=orderS (kb e.1) (kb k)
theorem cft_neg (k:ByteArray) (e:Ent):decide (cftK k e<0)=decide (kb e.1<kb k):=by
 have h:=orderS_less (kb e.1) (kb k);have hr:=orderS_range (kb e.1) (kb k);unfold cftK;rw[decide_eq_decide,<-h];omega
theorem cft_zero (k:ByteArray) (e:Ent):cftK k e=0↔e.1=k:=by
 unfold cftK;rw[orderS_zero,kb_iff]
theorem flat_ps (qs:List (Nat×Ent)):∀(j:Nat),(en enE (qs.map (·.1)))[j]? =(qs[j]?).map fun q=>pv (some q.1):=by
 induction qs with
 |nil=>intro j;simp[en]
 |cons q qs ih=>
  intro j;cases j with
  |zero=>simp[en,enE]
  |succ j=>
   have:=ih j;unfold en enE at this ⊢;simp only[List.map_cons,List.flatMap_cons,List.singleton_append,List.getElem?_cons_succ];exact this
theorem hm_search {hs:ByteArray->Nat} {S:Nat->Prop} (w:World) (L:List Ent) (c:Array Value) (k:ByteArray) (h:NodeAt hs S 0 w L c) (hL:Rise L) (hn:L.length<=100000):
  Calls Tryz.prog 130 #[.agg c,.string k] w fun r w'=>r=.returned (.tuple #[.int .i64 ((belE L k).length:Nat),.bool (getE L k).isSome])/\Below w.heap.size w w':=by
 obtain⟨v,qs,rfl,h2,rfl,h4⟩:=h;obtain⟨w1,hw1⟩:∃w1,w.alloc (.cells #[.int .u32 0,.slice none 0 0,v] 96)=w1:=⟨_,rfl⟩
 have hb1:Below w.heap.size w w1:=by rw[<-hw1];exact Below.newly' _ _
 have hx1:w1.heap[w.heap.size]? =some (.cells #[.int .u32 0,.slice none 0 0,v] 96 (0,0)):=by rw[<-hw1];exact heap_alloc_last _ _
 have ca2:w1.cell? ⟨w.heap.size,2,none⟩=some v:=cell_in hx1 rfl;have HB1:=iH hb1;obtain⟨hl,h2⟩:=h2;rw[List.length_map]at h2 hl;rcases h2 with⟨h0,rfl⟩|⟨h0,g,cp,cur,rfl,hcp,hS,hg,hc⟩
 ·obtain rfl:qs=[]:=List.eq_nil_of_length_eq_zero h0
  have HN:=iH (fun W=>Any.slices_BinarySearchFunc_none Tryz.searchL none 0 (.string k) (.func (.func 145) #[] #[]) W);clear h4 hL hb1 hx1 hl h0;go_enter Tryz.func130,Tryz.ntmps130;go_upto_region 1 with fail
  clear hw1;go_wp2_with (go_at_call 144;refine(HN.out _).mono ?_;rintro r w2 ⟨rfl,hw⟩;obtain rfl:=hw.symm)
  go_ret2;exact⟨rfl,HB1.out⟩
 ·
  have hin:Inhabited {q:Nat×Ent//q∈qs}:=⟨⟨qs[0],List.getElem_mem h0⟩⟩
  obtain⟨d,hd⟩:∃d:Array {q:Nat×Ent//q∈qs},d=qs.attach.toArray:=⟨_,rfl⟩
  have hds:d.size=qs.length:=by rw[hd];simp
  have hdl:d.toList.map Subtype.val=qs:=by rw[hd,List.toList_toArray];exact List.attach_map_subtype_val qs
  have hda:∀j,j<d.size->qs[j]? =some (d[j]!).1:=fun j hj=>by
   have e:(d.toList.map Subtype.val)[j]? =qs[j]? :=congrArg (fun l=>l[j]?) hdl;refine e.symm.trans ?_;rw[List.getElem?_map,Array.getElem?_toList,Array.getElem?_eq_getElem hj,getElem!_pos d j hj];rfl
  have hrow:w1.heap[g]? =some (.cells cur 161 (0,0)):=kW hb1 hg;have hHo:Holds (fun q:{q:Nat×Ent//q∈qs}=>pv (some q.1.1)) w1 g 0 d:=fun j hj=>by
   have hq:=hc j (pv (some (d[j]!).1.1)) (by rw[flat_ps,hda j hj];rfl);refine⟨by rw[Nat.zero_add];exact cell_in hrow hq,?_⟩;simp[World.frozen?,hrow]
  have hne:∀q∈qs,q.1≠g:=fun q hq e=>by
   obtain⟨_,fr,hx⟩:=h4 q hq;rw[e,hg]at hx;simp only[Option.some.injEq,Obj.cells.injEq]at hx;exact absurd hx.2.1 (by decide)
  have hcmp:CmpLaysT Tryz.prog 145 #[] (fun q:{q:Nat×Ent//q∈qs}=>pv (some q.1.1)) (.string k) (fun q=>cftK k q.1.2) g 0 d.size w1:=fun m os dk _ x=>by
   obtain⟨_,fr,hx⟩:=h4 x.1 x.2;have hlt:=(gZ hx)
   have hx2:(sortWorld (fun q:{q:Nat×Ent//q∈qs}=>pv (some q.1.1)) w1 g 0 m dk os).heap[x.1.1]? =some (.cells (entC hs x.1.2) 163 fr):=
    (sw_block _ w1 g 0 m dk os (Nat.lt_of_lt_of_le hlt hb1.size) (hne x.1 x.2)).trans ((hb1.block _ hlt).trans hx)
   refine(hm_search1 hs x.1.1 x.1.2 k _ hx2).mono ?_;rintro r w' ⟨rfl,rfl⟩;exact⟨rfl,0,#[],by rw[grow_empty];rfl⟩
  have eg:∀args w,(callFunc 145 args).run Tryz.prog w=.ok (.enter 145 args) w:=enters_of Tryz.func145 (by kernel_rfl) rfl
  have hmono:∀a b,a<=b->b<d.size->cftK k (d[b]!).1.2<0->cftK k (d[a]!).1.2<0:=fun a b hab hb hlt=>by
   have h1:kb (d[b]!).1.2.1<kb k:=by have:=cft_neg k (d[b]!).1.2;simpa[hlt]using this
   have h2:kb (d[a]!).1.2.1<kb k:=by
    rcases Nat.lt_or_ge a b with hlt2|hge
    ·have hp:=List.pairwise_iff_getElem.1 hL a b (by rw[List.length_map];omega) (by rw[List.length_map];omega) hlt2
     have ea:=hda a (by omega);have eb:=hda b hb;rw[List.getElem?_eq_getElem (by omega)]at ea eb;simp only[List.getElem_map,Option.some.inj ea,Option.some.inj eb]at hp;exact List.lt_trans hp h1
    ·obtain rfl:a=b:=by omega
     exact h1
   have:=cft_neg k (d[a]!).1.2;simpa[h2]using this
  have hcon:=Any.slices_BinarySearchFunc Tryz.searchL (fun q:{q:Nat×Ent//q∈qs}=>pv (some q.1.1)) (fun _=>rfl) (.string k) (fun q=>cftK k q.1.2) 145 #[] g 0 cp d w1 eg hcmp hHo (gZ hrow) (by rw[hds];rw[List.length_map]at hn;omega) hmono;change Calls Tryz.prog 144 _ _ _ at hcon
  rw[hds]at hcon;have hcnt:d.toList.countP (fun x=>decide (cftK k x.1.2<0))=(belE (qs.map (·.2)) k).length:=by
   have e:d.toList.countP (fun x=>decide (cftK k x.1.2<0))=((d.toList.map Subtype.val).map (·.2)).countP (fun e=>decide (cftK k e<0)):=by
    rw[List.countP_map,List.countP_map];rfl
   rw[e,hdl,List.countP_eq_length_filter];unfold belE;congr 2
   funext e
   exact cft_neg k e
  rw[hcnt]at hcon;obtain⟨N,hN⟩:∃N,N=(belE (qs.map (·.2)) k).length:=⟨_,rfl⟩
  have his:(decide (N<qs.length)&&decide (cftK k (d[N]!).1.2=0))=(getE (qs.map (·.2)) k).isSome:=by
   obtain⟨p1,p2⟩:=at_place hL k;rw[<-hN]at p1 p2;by_cases hlt:N<qs.length
   ·have ha:=hda N (by omega)
    have hp:=p1 (d[N]!).1.2 (by rw[List.getElem?_map,ha];rfl);rw[decide_eq_true hlt,Bool.true_and];cases hg:(getE (qs.map (·.2)) k).isSome with
    |true=>rw[decide_eq_true_eq];exact(cft_zero k _).2 (hp.2 hg)
    |false=>
     rw[decide_eq_false_iff_not];intro h0;have:=hp.1 ((cft_zero k _).1 h0);rw[hg]at this;cases this
   ·rw[decide_eq_false hlt,Bool.false_and]
    cases hg:(getE (qs.map (·.2)) k).isSome with
    |false=>rfl
    |true=>
     obtain⟨e,he,_⟩:=p2 hg;have:=(List.getElem?_eq_some_iff.1 he).1;rw[List.length_map]at this;omega
  rw[<-hN]at hcon ⊢;rw[his]at hcon;have HC:=iH hcon;have HHO:=iH hHo;obtain⟨R,hR⟩:∃R,R=(getE (qs.map (·.2)) k).isSome:=⟨_,rfl⟩
  rw[<-hR]at HC ⊢;clear hcon his hcnt hmono eg hcmp hne hHo hrow hda hdl hd h4 hL hb1 hx1 hl hc hg hS hcp hn hN hR;go_enter Tryz.func130,Tryz.ntmps130;go_upto_region 1 with fail
  clear hw1;go_wp2_with (go_at_call 144;refine HC.out.mono ?_;rintro r w2 ⟨rfl,m,os,hw⟩;have HW2:=iH hw;clear hw)
  go_ret2;exact⟨rfl,by rw[HW2.out];exact HB1.out.trans ((sw_same _ w1 g 0 m d os HHO.out).mono HB1.out.size)⟩
abbrev Sc:=Int×Int×List UInt8
def chkSc (s:Sc):Int:=
 if s.1<0\/3<s.1 then 3
 else if(s.1=0\/s.1=3)/\s.2.1≠0 then 1
 else if s.1≠3/\s.2.2≠[]then 1
 else if s.1=1/\s.2.1≠0/\s.2.1≠1 then 4
 else 0
def covOne (c:UInt8):List UInt8:=if c=0 then[0,255]else[c]
def covS (l:List UInt8):List UInt8:=l.flatMap covOne
def keySc (s:Sc):List UInt8:=
 if chkSc s≠0 then[]else if s.1=0 then[1]else if s.1=1 then[2,bt8 s.2.1]else if s.1=2 then 3::bytesS s.2.1 else 4::(covS s.2.2++[0,0])
def putS (c:UInt8) (k:Nat) (x:List UInt8×Nat×Int):List UInt8×Nat×Int:=if x.2.2=0 then(c::x.1,x.2.1+k,0)else([],x.2.1+k,x.2.2)
def bareS:List UInt8->List UInt8×Nat×Int
 |[]=>([],0,10)
 |c::r=>if c≠0 then putS c 1 (bareS r)else match r with
  |[]=>([],1,10)
  |d::r'=>if d=0 then([],2,0)else if d=255 then putS 0 2 (bareS r')else([],1,2)
def unkSc:List UInt8->Sc×Nat×Int
 |[]=>((0,0,[]),0,10)
 |c::r=>
  if c=1 then((0,0,[]),1,0)
  else if c=2 then(match r with
   |[]=>((0,0,[]),1,10)
   |b::_=>if 1<b.toNat then((0,0,[]),1,2)else((1,(b.toNat:Int),[]),2,0))
  else if c=3 then(if r.length<8 then((0,0,[]),r.length+1,10)else((2,(unbytesS (r.take 8)).1,[]),9,0))
  else if c=4 then(if(bareS r).2.2=0 then((3,0,(bareS r).1),(bareS r).2.1+1,0)else((0,0,[]),(bareS r).2.1+1,(bareS r).2.2))
  else((0,0,[]),0,2)
theorem chk_cases (s:Sc) (h:chkSc s=0):s=(0,0,[])\/s=(1,0,[])\/s=(1,1,[])\/(∃n,s=(2,n,[]))\/∃t,s=(3,0,t):=by
 obtain⟨k,n,t⟩:=s;unfold chkSc at h;simp only at h;split at h
 ·cases h
 rename_i h1
 split at h
 ·cases h
 rename_i h2
 split at h
 ·cases h
 rename_i h3
 split at h
 ·cases h
 rename_i h4
 have hk:k=0\/k=1\/k=2\/k=3:=by omega
 rcases hk with rfl|rfl|rfl|rfl
 ·have hn:n=0:=by omega
  have ht:t=[]:=by
   rcases Decidable.em (t=[])with h|h
   ·exact h
   ·exact absurd ⟨by decide,h⟩ h3
  subst hn ht;exact .inl rfl
 ·have ht:t=[]:=by
   rcases Decidable.em (t=[])with h|h
   ·exact h
   ·exact absurd ⟨by decide,h⟩ h3
  subst ht;have hn:n=0\/n=1:=by omega
  rcases hn with rfl|rfl
  ·exact .inr (.inl rfl)
  ·exact .inr (.inr (.inl rfl))
 ·have ht:t=[]:=by
   rcases Decidable.em (t=[])with h|h
   ·exact h
   ·exact absurd ⟨by decide,h⟩ h3
  subst ht;exact .inr (.inr (.inr (.inl ⟨n,rfl⟩)))
 ·have hn:n=0:=by omega
  subst hn;exact .inr (.inr (.inr (.inr ⟨t,rfl⟩)))
theorem chk_null:chkSc (0,0,[])=0:=by decide
theorem chk_false:chkSc (1,0,[])=0:=by decide
theorem chk_true:chkSc (1,1,[])=0:=by decide
theorem chk_int (n:Int):chkSc (2,n,[])=0:=by simp[chkSc]
theorem chk_text (t:List UInt8):chkSc (3,0,t)=0:=by simp[chkSc]
theorem key_null:keySc (0,0,[])=[1]:=by decide
theorem key_false:keySc (1,0,[])=[2,0]:=by decide+kernel
theorem key_true:keySc (1,1,[])=[2,1]:=by decide+kernel
theorem key_int (n:Int):keySc (2,n,[])=3::bytesS n:=by simp[keySc,chk_int]
theorem key_text (t:List UInt8):keySc (3,0,t)=4::(covS t++[0,0]):=by simp[keySc,chk_text]
theorem key_bad (s:Sc) (h:¬chkSc s=0):keySc s=[]:=by simp[keySc,h]
theorem cov_cons (c:UInt8) (t:List UInt8):covS (c::t)=covOne c++covS t:=by simp[covS]
theorem cov_len (t:List UInt8):(covS t).length<=2*t.length:=by
 induction t with
 |nil=>simp[covS]
 |cons c t ih=>
  rw[cov_cons,List.length_append,List.length_cons];have:(covOne c).length<=2:=by unfold covOne;split<;>simp
  omega
theorem bare_plain (c:UInt8) (r:List UInt8) (h:c≠0):bareS (c::r)=putS c 1 (bareS r):=by rw[bareS.eq_def];simp[h]
theorem bare_two (d:UInt8) (r:List UInt8):bareS (0::d::r)=if d=0 then([],2,0)else if d=255 then putS 0 2 (bareS r)else([],1,2):=by rw[bareS.eq_def];simp
theorem bare_cov (r:List UInt8):bareS (0::255::r)=putS 0 2 (bareS r):=by rw[bare_two,if_neg (by decide),if_pos rfl]
theorem bare_cover (x:List UInt8):∀t:List UInt8,bareS (covS t++0::0::x)=(t,(covS t).length+2,0)
 |[]=>by simp[covS,bareS]
 |c::t=>by
  have ih:=bare_cover x t;rw[cov_cons];unfold covOne;by_cases h:c=0
  ·subst h
   rw[if_pos rfl];show bareS (0::255::(covS t++0::0::x))=_;rw[bare_cov,ih];simp[putS]
  ·rw[if_neg h]
   show bareS (c::(covS t++0::0::x))=_;rw[bare_plain c _ h,ih];simp[putS]
theorem unk_null (r:List UInt8):unkSc (1::r)=((0,0,[]),1,0):=by simp[unkSc]
theorem unk_bool (b:UInt8) (r:List UInt8):unkSc (2::b::r)=if 1<b.toNat then((0,0,[]),1,2)else((1,(b.toNat:Int),[]),2,0):=by simp[unkSc]
theorem unk_int (r:List UInt8):unkSc (3::r)=if r.length<8 then((0,0,[]),r.length+1,10)else((2,(unbytesS (r.take 8)).1,[]),9,0):=by simp[unkSc]
theorem unk_text (r:List UInt8):unkSc (4::r)=if(bareS r).2.2=0 then((3,0,(bareS r).1),(bareS r).2.1+1,0)else((0,0,[]),(bareS r).2.1+1,(bareS r).2.2):=by simp[unkSc]
theorem unk_key (s:Sc) (hc:chkSc s=0) (hn:InR s.2.1) (x:List UInt8):unkSc (keySc s++x)=(s,(keySc s).length,0):=by
 rcases chk_cases s hc with rfl|rfl|rfl|⟨n,rfl⟩|⟨t,rfl⟩
 ·rw[key_null];exact unk_null x
 ·rw[key_false];show unkSc (2::0::x)=_;rw[unk_bool];simp
 ·rw[key_true];show unkSc (2::1::x)=_;rw[unk_bool];simp
 ·rw[key_int]
  show unkSc (3::(bytesS n++x))=_;have hl:=bytesS_len n;rw[unk_int,if_neg (by rw[List.length_append,hl];omega),List.take_left' hl,unbytes_bytes n hn];simp[hl]
 ·rw[key_text]
  have e:(4::(covS t++[0,0]))++x=4::(covS t++0::0::x):=by simp
  rw[e,unk_text,bare_cover];simp
theorem key_len (s:Sc):(keySc s).length<=2*s.2.2.length+9:=by
 by_cases hc:chkSc s=0
 ·rcases chk_cases s hc with rfl|rfl|rfl|⟨n,rfl⟩|⟨t,rfl⟩
  ·rw[key_null];simp
  ·rw[key_false];simp
  ·rw[key_true];simp
  ·rw[key_int];simp[bytesS_len]
  ·rw[key_text]
   have:=cov_len t;simp;omega
 ·rw[key_bad s hc];simp
theorem ord_cons_lt (a b:UInt8) (l r:List UInt8) (h:a<b):orderS (a::l) (b::r)= -1:=(orderS_less _ _).2 (List.cons_lt_cons_iff.2 (.inl h))
theorem ord_cons (a:UInt8) (l r:List UInt8):orderS (a::l) (a::r)=orderS l r:=by
 unfold orderS;have h1:(a::l=a::r)↔l=r:=by simp
 have h2:(a::l<a::r)↔l<r:=by
  rw[List.cons_lt_cons_iff];exact⟨fun h=>by rcases h with h|h;exact absurd h (UInt8.lt_irrefl _);exact h.2,fun h=>.inr ⟨rfl,h⟩⟩
 simp only[h1,h2]
theorem com_ne (a b:UInt8) (l r:List UInt8) (h:¬a=b):commonS (a::l) (b::r)=0:=by simp[commonS,h]
theorem com_eq (a:UInt8) (l r:List UInt8):commonS (a::l) (a::r)=commonS l r+1:=by simp[commonS]
def Apart (k l:List UInt8) (o:Int):Prop:=commonS k l<k.length/\commonS k l<l.length/\∀x y,orderS (k++x) (l++y)=o
theorem Apart.cons {k l:List UInt8} {o:Int} (h:Apart k l o) (c:UInt8):Apart (c::k) (c::l) o:=by
 refine⟨?_,?_,fun x y=> ?_⟩
 ·rw[com_eq,List.length_cons];have:=h.1;omega
 ·rw[com_eq,List.length_cons];have:=h.2.1;omega
 ·rw[List.cons_append,List.cons_append,ord_cons];exact h.2.2 x y
theorem Apart.lt {a b:UInt8} (h:a<b) (k l:List UInt8):Apart (a::k) (b::l) (-1):=by
 have hne:¬a=b:=fun e=>by subst e;exact absurd h (UInt8.lt_irrefl _)
 exact⟨by rw[com_ne _ _ _ _ hne];simp,by rw[com_ne _ _ _ _ hne];simp,fun x y=>ord_cons_lt _ _ _ _ h⟩
inductive Tr where
 |nd (k n:Int) (t:ByteArray) (ks:List ByteArray) (xs:List Tr)
namespace Tr
def k:Tr->Int|nd k _ _ _ _=>k
def n:Tr->Int|nd _ n _ _ _=>n
def t:Tr->ByteArray|nd _ _ t _ _=>t
def ks:Tr->List ByteArray|nd _ _ _ ks _=>ks
def xs:Tr->List Tr|nd _ _ _ _ xs=>xs
end Tr
abbrev nullT:Tr:=.nd 0 0 ⟨#[]⟩ [] []
theorem tr_ind {P:Tr->Prop} (h:∀k n t ks xs,(∀x∈xs,P x)->P (.nd k n t ks xs)):∀a,P a:=by
 intro a;apply Tr.rec (motive_1:=P) (motive_2:=fun l=>∀x∈l,P x)
 ·intro k n t ks xs ih;exact h k n t ks xs ih
 ·intro x hx;cases hx
 ·intro a l ha hl x hx
  rcases List.mem_cons.1 hx with rfl|hx
  ·exact ha
  ·exact hl x hx
mutual
def depT:Tr->Nat
 | .nd _ _ _ _ xs=>depL xs+1
def depL:List Tr->Nat
 |[]=>0
 |x::r=>max (depT x) (depL r)
end
mutual
def nodT:Tr->Nat
 | .nd _ _ _ _ xs=>nodL xs+1
def nodL:List Tr->Nat
 |[]=>0
 |x::r=>nodT x+nodL r
end
theorem depT_eq (a:Tr):depT a=depL a.xs+1:=by cases a;rw[depT];rfl
theorem nodT_eq (a:Tr):nodT a=nodL a.xs+1:=by cases a;rw[nodT];rfl
theorem nod_pos (a:Tr):1<=nodT a:=by rw[nodT_eq];omega
theorem dep_pos (a:Tr):1<=depT a:=by rw[depT_eq];omega
theorem nodL_app (l m:List Tr):nodL (l++m)=nodL l+nodL m:=by
 induction l with
 |nil=>simp[nodL]
 |cons x l ih=>rw[List.cons_append,nodL,nodL,ih];omega
theorem depL_app (l m:List Tr):depL (l++m)=max (depL l) (depL m):=by
 induction l with
 |nil=>simp[depL]
 |cons x l ih=>rw[List.cons_append,depL,depL,ih];omega
theorem nodL_perm {l m:List Tr} (h:l.Perm m):nodL l=nodL m:=by
 induction h with
 |nil=>rfl
 |cons x _ ih=>rw[nodL,nodL,ih]
 |swap x y l=>simp only[nodL];omega
 |trans _ _ h1 h2=>rw[h1,h2]
theorem depL_perm {l m:List Tr} (h:l.Perm m):depL l=depL m:=by
 induction h with
 |nil=>rfl
 |cons x _ ih=>rw[depL,depL,ih]
 |swap x y l=>simp only[depL];omega
 |trans _ _ h1 h2=>rw[h1,h2]
theorem nodL_mem {l:List Tr} {x:Tr} (h:x∈l):nodT x<=nodL l:=by
 induction l with
 |nil=>cases h
 |cons y l ih=>
  rw[nodL];rcases List.mem_cons.1 h with rfl|h
  ·omega
  ·have:=ih h;omega
theorem depL_mem {l:List Tr} {x:Tr} (h:x∈l):depT x<=depL l:=by
 induction l with
 |nil=>cases h
 |cons y l ih=>
  rw[depL];rcases List.mem_cons.1 h with rfl|h
  ·omega
  ·have:=ih h;omega
theorem len_nodL (l:List Tr):l.length<=nodL l:=by
 induction l with
 |nil=>simp
 |cons x l ih=>rw[nodL,List.length_cons];have:=nod_pos x;omega
def keyB (k:ByteArray):List UInt8:=keySc (3,0,kb k)
mutual
def keyT:Tr->List UInt8
 | .nd k n t ks xs=>if k<=3 then keySc (k,n,kb t)else bt8 (k+1)::(keyL k ks xs++[0])
def keyL (k:Int):List ByteArray->List Tr->List UInt8
 |_,[]=>[]
 |ks,x::r=>(if k=5 then keyB (ks.headD ⟨#[]⟩)else[])++(keyT x++keyL k ks.tail r)
end
mutual
def Good:Tr->Prop
  | .nd k n t ks xs=>GoodL xs/\
    ((0<=k/\k<=3/\chkSc (k,n,kb t)=0/\InR n/\ks=[]/\xs=[])\/
     (n=0/\t=⟨#[]⟩/\((k=4/\ks=[])\/(k=5/\ks.length=xs.length/\ks.Pairwise fun a b=>kb a<kb b)\/(k=6/\ks=[]/\xs.Pairwise fun a b=>keyT a<keyT b))))
def GoodL:List Tr->Prop
 |[]=>True
 |x::r=>Good x/\GoodL r
end
theorem goodL_iff {l:List Tr}:GoodL l↔∀x∈l,Good x:=by
 induction l with
 |nil=>simp[GoodL]
 |cons x l ih=>rw[GoodL,ih];simp
theorem good_iff {a:Tr}:Good a↔(∀x∈a.xs,Good x)/\
    ((0<=a.k/\a.k<=3/\chkSc (a.k,a.n,kb a.t)=0/\InR a.n/\a.ks=[]/\a.xs=[])\/
     (a.n=0/\a.t=⟨#[]⟩/\((a.k=4/\a.ks=[])\/(a.k=5/\a.ks.length=a.xs.length/\a.ks.Pairwise fun a b=>kb a<kb b)\/(a.k=6/\a.ks=[]/\a.xs.Pairwise fun a b=>keyT a<keyT b)))):=by
  cases a with
  |nd k n t ks xs=>rw[Good,goodL_iff];rfl
theorem Good.part {a x:Tr} (h:Good a) (hx:x∈a.xs):Good x:=(good_iff.1 h).1 x hx
theorem inr0:InR 0:=by unfold InR;omega
theorem keySc_first {s:Sc} (h:chkSc s=0):∃r,keySc s=bt8 (s.1+1)::r:=by
 rcases chk_cases s h with rfl|rfl|rfl|⟨n,rfl⟩|⟨t,rfl⟩
 ·exact⟨[],by rw[key_null];decide+kernel⟩
 ·exact⟨[0],by rw[key_false];decide+kernel⟩
 ·exact⟨[1],by rw[key_true];decide+kernel⟩
 ·exact⟨bytesS n,by rw[key_int];congr 1⟩
 ·exact⟨covS t++[0,0],by rw[key_text];congr 1⟩
theorem key_first {a:Tr} (h:Good a):(∃r,keyT a=bt8 (a.k+1)::r)/\0<=a.k/\a.k<=6:=by
 cases a with
 |nd k n t ks xs=>
  rw[good_iff]at h;simp only[Tr.k,Tr.n,Tr.t,Tr.ks,Tr.xs]at h ⊢;rcases h.2 with⟨h0,h3,hc,_⟩|⟨_,_,h⟩
  ·refine⟨?_,h0,by have:k<=3:=h3;show k<=6;omega⟩
   rw[keyT,if_pos h3];exact keySc_first hc
  ·have hk:k=4\/k=5\/k=6:=by
    rcases h with h|h|h
    ·exact .inl h.1
    ·exact .inr (.inl h.1)
    ·exact .inr (.inr h.1)
   refine⟨?_,by show 0<=k;omega,by show k<=6;omega⟩;rw[keyT,if_neg (by omega)];exact⟨_,rfl⟩
theorem bt8_kind {i j:Int} (hi:0<=i/\i<=6) (hj:0<=j/\j<=6) (h:bt8 (i+1)=bt8 (j+1)):i=j:=by
 have e1:i=0\/i=1\/i=2\/i=3\/i=4\/i=5\/i=6:=by omega
 have e2:j=0\/j=1\/j=2\/j=3\/j=4\/j=5\/j=6:=by omega
 rcases e1 with rfl|rfl|rfl|rfl|rfl|rfl|rfl<;>rcases e2 with rfl|rfl|rfl|rfl|rfl|rfl|rfl<;>first|rfl|(exfalso;revert h;decide+kernel)
theorem bt8_ne {i:Int} (hi:0<=i/\i<=6):bt8 (i+1)≠0:=by
 have e1:i=0\/i=1\/i=2\/i=3\/i=4\/i=5\/i=6:=by omega
 rcases e1 with rfl|rfl|rfl|rfl|rfl|rfl|rfl<;>decide+kernel
theorem keySc_inj {s s':Sc} (h:chkSc s=0) (h':chkSc s'=0) (hn:InR s.2.1) (hn':InR s'.2.1) {x y:List UInt8} (e:keySc s++x=keySc s'++y):s=s'/\x=y:=by
 have h1:=unk_key s h hn x;have h2:=unk_key s' h' hn' y;rw[e,h2]at h1;have hs:s'=s:=(Prod.mk.inj h1).1;subst hs;exact⟨rfl,List.append_cancel_left e⟩
theorem keyB_inj {a b:ByteArray} {x y:List UInt8} (e:keyB a++x=keyB b++y):a=b/\x=y:=by
 obtain⟨h1,h2⟩:=keySc_inj (chk_text _) (chk_text _) inr0 inr0 e;exact⟨kb_inj (Prod.mk.inj (Prod.mk.inj h1).2).2,h2⟩
theorem keyB_first (a:ByteArray):∃r,keyB a=4::r:=⟨_,key_text _⟩
theorem tr_apart (a:Tr):∀(b:Tr) (x y:List UInt8),Good a->Good b->keyT a++x=keyT b++y->a=b/\x=y:=by
 induction a using tr_ind with
 |h k n t ks xs ih=>
  intro b x y ha hb e;obtain⟨k',n',t',ks',xs'⟩:=b;obtain⟨⟨r,hr⟩,ka⟩:=key_first ha;obtain⟨⟨r',hr'⟩,kb'⟩:=key_first hb;have hk:k=k':=by
   rw[hr,hr']at e;exact bt8_kind ka kb' (List.cons.inj e).1
  subst hk;clear hr hr' r r';rw[good_iff]at ha hb;simp only[Tr.k,Tr.n,Tr.t,Tr.ks,Tr.xs]at ha hb ka;rw[keyT,keyT]at e;by_cases h3:k<=3
  ·rw[if_pos h3,if_pos h3]at e
   rcases ha.2 with ha|ha
   ·rcases hb.2 with hb|hb
    ·obtain⟨_,_,hc,hi,rfl,rfl⟩:=ha
     obtain⟨_,_,hc',hi',rfl,rfl⟩:=hb;obtain⟨h1,h2⟩:=keySc_inj hc hc' hi hi' e;have h4:=(Prod.mk.inj (Prod.mk.inj h1).2)
     have h5:=kb_inj h4.2;have h6:n=n':=h4.1;subst h6 h5;exact⟨rfl,h2⟩
    ·exfalso;omega
   ·exfalso;omega
  ·rw[if_neg h3,if_neg h3]at e
   rw[List.cons_append,List.cons_append]at e;have e2:=(List.cons.inj e).2;rw[List.append_assoc,List.append_assoc]at e2;rcases ha.2 with ha2|ha2
   ·exfalso;omega
   rcases hb.2 with hb2|hb2
   ·exfalso;omega
   obtain⟨rfl,rfl,ha3⟩:=ha2;obtain⟨rfl,rfl,hb3⟩:=hb2;have key:∀(xs:List Tr) (ks ks':List ByteArray) (xs':List Tr),(∀z∈xs,∀(b:Tr) (x y:List UInt8),Good z->Good b->keyT z++x=keyT b++y->z=b/\x=y)->(∀z∈xs,Good z)->(∀z∈xs',Good z)->(k=5->ks.length=xs.length/\ks'.length=xs'.length)->
     keyL k ks xs++([0]++x)=keyL k ks' xs'++([0]++y)->xs=xs'/\(k=5->ks=ks')/\x=y:=by
    intro xs;induction xs with
    |nil=>
     intro ks ks' xs' _ _ hg hl e;cases xs' with
     |nil=>
      rw[keyL,keyL]at e;refine⟨rfl,fun h5=> ?_,by simpa using e⟩;have:=hl h5;rw[List.length_eq_zero_iff.1 this.1,List.length_eq_zero_iff.1 this.2]
     |cons z r=>
      exfalso;rw[keyL,keyL]at e;obtain⟨⟨q,hq⟩,hk⟩:=key_first (hg z (List.mem_cons_self ..));by_cases h5:k=5
      ·rw[if_pos h5]at e
       obtain⟨q2,hq2⟩:=keyB_first (ks'.headD ⟨#[]⟩);rw[hq2]at e;simp at e
      ·rw[if_neg h5,hq]at e
       simp at e;exact bt8_ne hk e.1.symm
    |cons z r ih2=>
     intro ks ks' xs' hi hg hg' hl e;cases xs' with
     |nil=>
      exfalso;rw[keyL,keyL]at e;obtain⟨⟨q,hq⟩,hk⟩:=key_first (hg z (List.mem_cons_self ..));by_cases h5:k=5
      ·rw[if_pos h5]at e
       obtain⟨q2,hq2⟩:=keyB_first (ks.headD ⟨#[]⟩);rw[hq2]at e;simp at e
      ·rw[if_neg h5,hq]at e
       simp at e;exact bt8_ne hk e.1
     |cons z' r'=>
      rw[keyL,keyL]at e;have hz:=hg z (List.mem_cons_self ..);have hz':=hg' z' (List.mem_cons_self ..);have rest:ks.headD ⟨#[]⟩=ks'.headD ⟨#[]⟩\/¬k=5:=by
       by_cases h5:k=5
       ·rw[if_pos h5,if_pos h5]at e
        simp only[List.append_assoc]at e;exact .inl (keyB_inj e).1
       ·exact .inr h5
      have e4:keyT z++(keyL k ks.tail r++([0]++x))=keyT z'++(keyL k ks'.tail r'++([0]++y)):=by
       by_cases h5:k=5
       ·rw[if_pos h5,if_pos h5]at e
        simp only[List.append_assoc]at e;exact(keyB_inj e).2
       ·rw[if_neg h5,if_neg h5,List.nil_append,List.nil_append,List.append_assoc,List.append_assoc]at e
        exact e
      obtain⟨rfl,e5⟩:=hi z (List.mem_cons_self ..) z' _ _ hz hz' e4;obtain⟨rfl,h6,h7⟩:=ih2 ks.tail ks'.tail r' (fun w hw=>hi w (List.mem_cons_of_mem _ hw)) (fun w hw=>hg w (List.mem_cons_of_mem _ hw)) (fun w hw=>hg' w (List.mem_cons_of_mem _ hw)) (fun h5=>by have:=hl h5;simp at this ⊢;omega) e5;refine⟨rfl,fun h5=> ?_,h7⟩;have hl':=hl h5;have h8:=h6 h5;rcases rest with h9|h9
      ·cases ks with
       |nil=>simp at hl'
       |cons c ks=>
        cases ks' with
        |nil=>simp at hl'
        |cons c' ks'=>
         simp at h8 h9;rw[h8,h9]
      ·exact absurd h5 h9
   have hl:k=5->ks.length=xs.length/\ks'.length=xs'.length:=by
    intro h5;constructor
    ·rcases ha3 with h|h|h
     ·omega
     ·exact h.2.1
     ·omega
    ·rcases hb3 with h|h|h
     ·omega
     ·exact h.2.1
     ·omega
   obtain⟨rfl,h6,h7⟩:=key xs ks ks' xs' ih ha.1 hb.1 hl e2;by_cases h5:k=5
   ·rw[h6 h5];exact⟨rfl,h7⟩
   ·have h8:ks=[]:=by
     rcases ha3 with h|h|h
     ·exact h.2
     ·exact absurd h.1 h5
     ·exact h.2.1
    have h9:ks'=[]:=by
     rcases hb3 with h|h|h
     ·exact h.2
     ·exact absurd h.1 h5
     ·exact h.2.1
    rw[h8,h9];exact⟨rfl,h7⟩
theorem key_inj {a b:Tr} (ha:Good a) (hb:Good b) (e:keyT a=keyT b):a=b:=(tr_apart a b [] [] ha hb (by rw[e])).1
end Go.Proofs.YtengibnpebfblaaGreatDoor
