import Derived.Test.YtengibnpebfblaaGreatDoorB20
import Derived.ChangeSlices
import Derived.LaidMore
import Derived.Lay
import Derived.Lib.ItoaNum
import Derived.Lib.LaidTab
import Derived.OpenShut
import Derived.ProofKit
import Derived.SevenTiedAt
import Derived.Stop.Joined
import Derived.Stop.LaidErr
import Derived.Test.YtengibnpebfblaaGreatDoorRows
import Derived.WideKeyPair
set_option maxRecDepth 1000000
set_option maxHeartbeats 8000000
set_option linter.unusedSimpArgs false
namespace Go.Proofs.YtengibnpebfblaaGreatDoor
open Go.ChangeShapes Go.WideShapes Go.ChangeAt Go.RowKit
open Go.ChangeMaps (open_string)
section
variable {H : Type} {enc : TypeId × Value → H} {P : Program}
theorem trodAll_after (hl:laidOutB P=true) {W W':World} (hb:Below W.heap.size W W'):∀{ts:List TypeId} {vs:List Value} {ds:List (DataW H)} {ps:List MemPlace},
  (ts.all fun t=>P.readableRec t&&decide (t<P.types.size))=true->DataW.TrodAll enc P W 0 (fun _=>true) true ts vs ds ps->(∀x∈ps,x.block<W.heap.size)->
  DataW.TrodAll enc P W' 0 (fun b=>decide (b<W.heap.size)) true ts vs ds ps
 |[],_,_,_,_,h,_=>by
  obtain⟨rfl,rfl,rfl⟩:=trodAll_nil h;exact trodAll_mk0
 |t::ts,_,_,_,ht,h,hlt=>by
  obtain⟨v,vs,d,ds,p,q,rfl,rfl,rfl,h1,h2⟩:=trodAll_cons h;simp only[List.all_cons,Bool.and_eq_true,decide_eq_true_eq]at ht;refine trodAll_cons_mk (Below.trod hl ht.1.1 ht.1.2 h1 hb fun x hx=>hlt x (List.mem_append_left _ hx)) (trodAll_after hl hb ?_ h2 fun x hx=>hlt x (List.mem_append_right _ hx));simpa using ht.2
theorem law_post {f:Func} {s:ChangeSpec} {W W':World} {args:Array Value} {ds:List (DataW H)} {before:List MemPlace} {T:TypeId} (hl:laidOutB P=true)
  (hrows:(f.params.toList.all fun t=>P.readableRec t&&decide (t<P.types.size))=true) (hv:s.vars=[]) (hfn:s.fn H (ds++[])={results:=[.lit (.bool true)],args:=ds})
  (hr:f.resultTypes=#[T]) (hT:P.underlying T=some .bool) (hW:DataW.Whole enc P f.params.toList s.vars false W args.toList ds [] before) (hb:Below W.heap.size W W'):
  s.post enc P f false true false false W args (.bool true) W':=by
 have hlt:=hW.lt;have hW':=hW;obtain⟨p,q,hA,hV,rfl,_,_⟩:=hW';rw[hv]at hV;obtain⟨_,rfl⟩:=trodVars_none hV;simp only[List.append_nil]at hlt;refine⟨ds,[],p++[],[],p,[],hW,?_,?_,?_,hb.frame _,fun h=>by cases h⟩
 ·rw[hfn,hr];exact trodAll_mk1 (shut_bool hT _)
 ·rw[hfn];exact trodAll_after hl hb hrows hA hlt
 ·rw[hfn,hv];rfl
end
theorem own:ownKnob Tryz.prog.godebug=none:=by kernel_rfl
theorem laid_out:laidOutB Tryz.prog=true:=by kernel_rfl
theorem laid_drop {P:Program} {W:World}:∀(i:Nat) {l:List (String×DataW Unit)},laidMet P l W->laidMet P (l.drop i) W
 |0,_,h=>by rw[List.drop_zero];exact h
 |_+1,[],h=>h
 |i+1,_::_,h=>laid_drop i h.tail
end Go.Proofs.YtengibnpebfblaaGreatDoor
namespace Go.Proofs.YtengibnpebfblaaGreatDoor
open Go.ChangeShapes Go.WideShapes Go.ChangeAt Go.RowKit
theorem ints_read {W:World} {a:Addr} {len cap:Nat} {zs:List Int} (hl:len<=zs.length) (hm:len<=maxLen)
  (hcell:∀i,i<zs.length->W.cell? (a.add i)=some (.int .i64 (zs.getD i 0))) (hw:∀n∈zs,(Lit.int .i64 n).wf=true):
  ∃ys,IntsAt W (.slice (some a) len cap) ys:=by
 have hlen:(zs.take len).length=len:=by rw[List.length_take];omega
 refine⟨zs.take len,some a,cap,a.block,a.off,by rw[hlen],?_,?_,?_,by rw[hlen];exact hm⟩
 ·intro h0
  rw[hlen]at h0;obtain⟨b,off,spot⟩:=a;have hspot:spot=none:=by simpa[Addr.add]using World.cell?_spot (hcell 0 (by omega))
  subst hspot;rfl
 ·intro j hj
  rw[hlen]at hj;have hspot:a.spot=none:=by
   have:=World.cell?_spot (hcell 0 (by omega));simpa[Addr.add]using this
  have ha:a.add j=⟨a.block,a.off+j,none⟩:=by
   unfold Addr.add;split
   ·subst_vars;obtain⟨b,off,spot⟩:=a;simp only at hspot;subst hspot;rfl
   ·rfl
  rw[<-ha,hcell j (by omega)];congr 2
  rw[List.getD_eq_getElem?_getD,List.getD_eq_getElem?_getD,List.getElem?_take_of_lt hj]
 ·intro n hn
  exact bounds_i64 (hw n (List.mem_of_mem_take hn))
theorem ints_open {H:Type} {enc:TypeId×Value->H} {P:Program} {W:World} {sp:Nat->Bool} {held:Bool} {r:Reach} {b0 base:Nat} {t e:TypeId} {v:Value} {d:DataW H} {ps:List MemPlace}
  (ht:P.underlying t=some (.slice e)) (he:P.underlying e=some (.int .i64)) (hc:P.cellsOf e=1) (hval:Value.okWide P W r b0 t v) (hd:DataW.Trod enc P W base sp held t v d ps):∃ys,IntsAt W v ys:=by
 obtain⟨a0,len,cap,rfl⟩:=okWide_slice ht hval;obtain⟨fuel,hf⟩:=hd;rcases open_ints ht he hc hf with⟨hcs,_⟩|⟨a,len',cap',zs,hcs,_,hl,hm,hz,_,hcell,hwz⟩
 ·simp[Value.cells]at hcs
  obtain⟨rfl,rfl,rfl⟩:=hcs;exact⟨[],none,0,0,0,rfl,fun h=>absurd h (by simp),fun j h=>absurd h (by simp),fun n h=>absurd h (by simp),by simp⟩
 ·simp[Value.cells]at hcs
  obtain⟨rfl,rfl,rfl⟩:=hcs;exact ints_read (by rw[hz];split<;>omega) (by omega) hcell hwz
end Go.Proofs.YtengibnpebfblaaGreatDoor
namespace Go.Proofs.YtengibnpebfblaaGreatDoor
open Go.RowKit Go.Shelf
def IterRM {α:Type} (P:Program) (gf:Nat) (lb:Array Value) (encs:α->Array Value) (RK IK:Nat->World->World->Prop) (S Sp Pr:List α->Prop) (w0:World):Prop:=
 ∀(l:Nat) (J Jx:List α->World->Prop) (W:World),Below w0.heap.size w0 W->(∀s A B,J s A->IK W.heap.size A B->J s B)->
  (∀m pre x V,J pre V->W.heap.size+2<=V.heap.size->Pr (pre++[x])->YieldAt Fence.wide m P l (encs x) V fun e V'=>
   (e=.returned (.bool true)/\J (pre++[x]) V'/\RK W.heap.size V V')\/(e=.returned (.bool false)/\Jx (pre++[x]) V'))->
  J [] W->∀m,CallsIn Fence.wide m P gf (#[.func (.yield l) #[] #[]]++lb) W fun e W'=>(∃v,e=.returned v)/\((∃ys,S ys/\J ys W')\/(∃pre,Sp pre/\Jx pre W'))
def IterM {α:Type} (P:Program) (gf:Nat) (lb:Array Value) (encs:α->Array Value) (RK IK:Nat->World->World->Prop) (S Pr:List α->Prop) (w0:World):Prop:=
 ∀(l:Nat) (J:List α->World->Prop) (W:World),Below w0.heap.size w0 W->(∀s A B,J s A->IK W.heap.size A B->J s B)->
  (∀m pre x V,J pre V->W.heap.size+2<=V.heap.size->Pr (pre++[x])->YieldAt Fence.wide m P l (encs x) V fun e V'=>e=.returned (.bool true)/\J (pre++[x]) V'/\RK W.heap.size V V')->
  J [] W->∀m,CallsIn Fence.wide m P gf (#[.func (.yield l) #[] #[]]++lb) W fun e W'=>(∃v,e=.returned v)/\∃ys,S ys/\J ys W'
theorem IterRM.n {α:Type} {P:Program} {gf:Nat} {lb:Array Value} {encs:α->Array Value} {RK IK:Nat->World->World->Prop} {S Sp Pr:List α->Prop} {w0:World} (h:IterRM P gf lb encs RK IK S Sp Pr w0):IterM P gf lb encs RK IK S Pr w0:=fun l J W hW hA hY h0 m=>
 (h l J (fun _ _=>False) W hW hA (fun m pre x V a b c=>(hY m pre x V a b c).mono fun _ _ h=>.inl h) h0 m).mono fun _ _ ⟨h1,h2⟩=>⟨h1,h2.elim id fun⟨_,_,h⟩=>h.elim⟩
end Go.Proofs.YtengibnpebfblaaGreatDoor
namespace Go.Proofs.YtengibnpebfblaaGreatDoor
open Go.RowKit
noncomputable def cv1X (w:World) (a:Addr):Result Value:=(convert 129 9 (.slice (some a) 1 1)).run Tryz.prog w
open Classical in
noncomputable def cv1 (w:World) (a:Addr) (c:Option Value):Result Value:=if∃v,0<=v/\v<256/\c=some (.int .u8 v)then
 match c with
 |some (.int .u8 v)=>.ok (.string ⟨#[bt8 v]⟩) w
 |_=>cv1X w a
 else cv1X w a
theorem cv1_run (w:World) (a:Addr):(convert 129 9 (.slice (some a) 1 1)).run Tryz.prog w=cv1 w a (w.cell? a):=by
 unfold cv1;split
 ·rename_i h
  obtain⟨v,h0,h1,hc⟩:=h;rw[hc];have:=run_convert_bytes_back (P:=Tryz.prog) w 129 9 5 a 1 [bt8 v] Tryz.underlying129 Tryz.underlying5 Tryz.underlying9 (fun j hj=>by
   have hj':j=0:=by simp at hj;exact hj
   subst hj';rw[show a.add 0=a from by simp[Addr.add],hc];simp[bt8_toNat];omega)
  exact this
 ·rfl
theorem cv1_at (w:World) (a:Addr) (v:Int) (h0:0<=v) (h1:v<256):cv1 w a (some (.int .u8 v))=.ok (.string ⟨#[bt8 v]⟩) w:=by
 unfold cv1;rw[if_pos ⟨v,h0,h1,rfl⟩]
theorem cat_mk (l r:List UInt8):(⟨l.toArray⟩:ByteArray)++⟨r.toArray⟩=⟨(l++r).toArray⟩:=by
 apply ByteArray.ext;simp[ByteArray.data_append]
theorem tr_size:(Tryz.prog.info? 28).map (·.size)=some 5:=by kernel_rfl
theorem ld_tr {ops:Array Oper} {rest:List Oper} {o:Oper} {a:Act} {w:World} {Q:Exit->Act->World->Prop} (hwd:Region.wanted o (yielded ops a.tmps)=true) (y:Operand) (ho:o.op=.load 28 y)
  (b k:Nat) (hx:a.eval y=.pointer (some ⟨b,k,none⟩)) (cs:Array Value) (hR:w.rangeAt b k cs.toList) (hs:cs.size=5)
  (h:wpList Tryz.prog ops Q rest (a.put o.dst (.agg cs)) w):wpList Tryz.prog ops Q (o::rest) a w:=
 wpList_step fun _ hK=>by
  rw[if_pos hwd];exact wp_load_mid 28 y ho b k hx _ _ hR Tryz.underlying28 rfl (by rw[tr_size,Array.length_toList,hs]) (hK _ _ h)
theorem TrV.cells {w:World} {y:Tr} {cs:Array Value} (h:TrV w y (.agg cs)):∃k n t a l c a' l' c',cs=trC k n t (.slice a l c) (.slice a' l' c'):=by
 cases y with
 |nd k n t ks xs=>
  obtain⟨kv,xv,e,_,_,_,⟨a,c,_,_,rfl,_⟩,a',c',_,_,rfl,_⟩:=h.open';exact⟨k,n,t,a,_,c,a',_,c',Value.agg.inj e⟩
mutual
def sameT:Tr->Tr->Bool
 | .nd k n t ks xs,b=>decide (k=b.k)&&(decide (n=b.n)&&(decide (t=b.t)&&(decide (ks=b.ks)&&sameL xs b.xs)))
def sameL:List Tr->List Tr->Bool
 |[],l=>l.isEmpty
 |x::r,l=>match l with
  |[]=>false
  |y::s=>sameT x y&&sameL r s
end
theorem same_iff (a:Tr):∀b,sameT a b=true↔a=b:=by
 induction a using tr_ind with
 |h k n t ks xs ih=>
  intro b;obtain⟨k',n',t',ks',xs'⟩:=b;have hL:∀(xs xs':List Tr),(∀x∈xs,∀b,sameT x b=true↔x=b)->(sameL xs xs'=true↔xs=xs'):=by
   intro xs;induction xs with
   |nil=>intro xs' _;rw[sameL];cases xs'<;>simp
   |cons x r ih2=>
    intro xs' hi;cases xs' with
    |nil=>rw[sameL];simp
    |cons y s=>
     rw[sameL,Bool.and_eq_true,hi x (List.mem_cons_self ..),ih2 s fun z hz=>hi z (List.mem_cons_of_mem _ hz)];simp
  rw[sameT];show(decide (k=k')&&(decide (n=n')&&(decide (t=t')&&(decide (ks=ks')&&sameL xs xs'))))=true↔_;rw[Bool.and_eq_true,Bool.and_eq_true,Bool.and_eq_true,Bool.and_eq_true,hL xs xs' ih,Tr.nd.injEq,decide_eq_true_iff,decide_eq_true_iff,decide_eq_true_iff,decide_eq_true_iff]
def withinT (a:Tr):Tr×Int:=if 64<depT a then(nullT,7)else if 16384<nodT a then(nullT,8)else(a,0)
def ValT (a:Tr):Prop:=Good a/\depT a<=64/\nodT a<=16384
theorem ValT.part {a x:Tr} (h:ValT a) (hx:x∈a.xs):ValT x:=by
 have h1:=nodL_mem hx;have h2:=depL_mem hx;have h3:=nodT_eq a;have h4:=depT_eq a;exact⟨h.1.part hx,by have:=h.2.1;omega,by have:=h.2.2;omega⟩
def placeK (ks:List ByteArray) (t:ByteArray):Nat:=(ks.takeWhile fun y=>decide (kb y<kb t)).length
def putN {β:Type} (n:Nat) (l:List β) (x:β):List β:=l.take n++x::l.drop n
theorem putN_perm {β:Type} (n:Nat) (l:List β) (x:β):(putN n l x).Perm (x::l):=by
 unfold putN;refine List.perm_middle.trans ?_;rw[List.take_append_drop]
theorem putN_len {β:Type} (n:Nat) (l:List β) (x:β):(putN n l x).length=l.length+1:=(putN_perm n l x).length_eq
theorem tw_take {β:Type} (p:β->Bool) (l:List β):l.take (l.takeWhile p).length=l.takeWhile p:=by
 have h:=List.takeWhile_append_dropWhile (p:=p) (l:=l)
 conv=>lhs;rw[<-h]
 conv=>lhs;rw[h]
 conv=>lhs;arg 2;rw[<-h]
 rw[List.take_left]
theorem tw_drop {β:Type} (p:β->Bool) (l:List β):l.drop (l.takeWhile p).length=l.dropWhile p:=by
 have h:=List.takeWhile_append_dropWhile (p:=p) (l:=l)
 conv=>lhs;arg 2;rw[<-h]
 rw[List.drop_left]
def insT (a:Tr) (i:Int) (x:Tr):Tr×Int:=
 if a.k≠4 then(nullT,3)else if i<0\/(a.xs.length:Int)<i then(nullT,4)
 else withinT (.nd 4 0 ⟨#[]⟩ [] (putN i.toNat a.xs x))
theorem Good.vec {a:Tr} (h:Good a) (h4:a.k=4):a.ks=[]/\a=.nd 4 0 ⟨#[]⟩ [] a.xs:=by
 obtain⟨k,n,t,ks,xs⟩:=a;have h4':k=4:=h4;rcases(good_iff.1 h).2 with h|⟨h1,h2,h|h|h⟩<;>simp only[Tr.k,Tr.n,Tr.t,Tr.ks,Tr.xs]at* <;>first|omega|skip
 obtain⟨rfl,rfl⟩:=h;subst h1 h2;exact⟨rfl,rfl⟩
theorem Good.mapD {a:Tr} (h:Good a) (h5:a.k=5):a.ks.length=a.xs.length/\a.ks.Pairwise (fun a b=>kb a<kb b)/\a=.nd 5 0 ⟨#[]⟩ a.ks a.xs:=by
 obtain⟨k,n,t,ks,xs⟩:=a;have h5':k=5:=h5;rcases(good_iff.1 h).2 with h|⟨h1,h2,h|h|h⟩<;>simp only[Tr.k,Tr.n,Tr.t,Tr.ks,Tr.xs]at* <;>first|omega|skip
 obtain⟨rfl,h3,h4⟩:=h;subst h1 h2;exact⟨h3,h4,rfl⟩
theorem Good.setD {a:Tr} (h:Good a) (h6:a.k=6):a.ks=[]/\a.xs.Pairwise (fun a b=>keyT a<keyT b)/\a=.nd 6 0 ⟨#[]⟩ [] a.xs:=by
 obtain⟨k,n,t,ks,xs⟩:=a;have h6':k=6:=h6;rcases(good_iff.1 h).2 with h|⟨h1,h2,h|h|h⟩<;>simp only[Tr.k,Tr.n,Tr.t,Tr.ks,Tr.xs]at* <;>first|omega|skip
 obtain⟨rfl,rfl,h4⟩:=h;subst h1 h2;exact⟨rfl,h4,rfl⟩
theorem fit_kind {k sk:Int} (h:fitT k sk=0):(sk=0/\k=4)\/(sk=1/\k=5)\/(sk=2/\k=6):=by
 unfold fitT at h;split at h
 ·split at h
  ·exact .inl ⟨by assumption,by assumption⟩
  ·cases h
 ·split at h
  ·split at h
   ·exact .inr (.inl ⟨by assumption,by assumption⟩)
   ·cases h
  ·split at h
   ·split at h
    ·exact .inr (.inr ⟨by assumption,by assumption⟩)
    ·cases h
   ·cases h
def kB (a:Tr):ByteArray:=⟨(keyT a).toArray⟩
theorem kb_kB (a:Tr):kb (kB a)=keyT a:=by simp[kb,kB]
theorem kB_iff {a:Tr} {t:ByteArray}:kB a=t↔keyT a=kb t:=⟨fun h=>by rw[<-h,kb_kB],fun h=>kb_inj (by rw[kb_kB,h])⟩
mutual
def TxtT (B:Nat):Tr->Prop
 | .nd _ _ t ks xs=>t.size<=B/\(∀k∈ks,k.size<=B)/\TxtL B xs
def TxtL (B:Nat):List Tr->Prop
 |[]=>True
 |x::r=>TxtT B x/\TxtL B r
end
theorem txtL_iff {B:Nat} {l:List Tr}:TxtL B l↔∀x∈l,TxtT B x:=by
 induction l with
 |nil=>simp[TxtL]
 |cons x l ih=>rw[TxtL,ih];simp
theorem txtT_iff {B:Nat} {a:Tr}:TxtT B a↔a.t.size<=B/\(∀k∈a.ks,k.size<=B)/\∀x∈a.xs,TxtT B x:=by
 cases a with
 |nd k n t ks xs=>rw[TxtT,txtL_iff];rfl
theorem TxtT.part {B:Nat} {a x:Tr} (h:TxtT B a) (hx:x∈a.xs):TxtT B x:=(txtT_iff.1 h).2.2 x hx
theorem TxtT.mono {B C:Nat} (hBC:B<=C) (a:Tr):TxtT B a->TxtT C a:=by
 induction a using tr_ind with
 |h k n t ks xs ih=>
  intro h;obtain⟨h1,h2,h3⟩:=txtT_iff.1 h;exact txtT_iff.2 ⟨Nat.le_trans h1 hBC,fun k hk=>Nat.le_trans (h2 k hk) hBC,fun x hx=>ih x hx (h3 x hx)⟩
theorem keySc_len (s:Sc):(keySc s).length<=2*s.2.2.length+20:=Nat.le_trans (key_len s) (by omega)
theorem keyB_len (k:ByteArray):(keyB k).length<=2*k.size+20:=keySc_len (3,0,kb k)
theorem keyT_len {B:Nat} (a:Tr):TxtT B a->RngT a->(keyT a).length+(2*B+20)<=nodT a*(4*B+50):=by
 induction a using tr_ind with
 |h k n t ks xs ih=>
  intro h hr;obtain⟨h1,h2,h3⟩:=txtT_iff.1 h;obtain⟨_,r2⟩:=rngT_iff.1 hr;have hL:∀(l:List Tr) (ks:List ByteArray),(∀x∈l,TxtT B x->RngT x->(keyT x).length+(2*B+20)<=nodT x*(4*B+50))->(∀x∈l,TxtT B x)->(∀x∈l,RngT x)->(∀k∈ks,k.size<=B)->(keyL k ks l).length<=nodL l*(4*B+50):=by
   intro l;induction l with
   |nil=>intro ks _ _ _ _;rw[keyL];simp
   |cons x r ih2=>
    intro ks hi ht hrr hk;have a1:=hi x (List.mem_cons_self ..) (ht x (List.mem_cons_self ..)) (hrr x (List.mem_cons_self ..));have a2:=ih2 ks.tail (fun y hy=>hi y (List.mem_cons_of_mem _ hy)) (fun y hy=>ht y (List.mem_cons_of_mem _ hy)) (fun y hy=>hrr y (List.mem_cons_of_mem _ hy)) (fun y hy=>hk y (List.mem_of_mem_tail hy));have a3:(if k=5 then keyB (ks.headD ⟨#[]⟩)else[]).length<=2*B+20:=by
     split
     ·have h4:(ks.headD ⟨#[]⟩).size<=B:=by
       cases ks with
       |nil=>exact Nat.zero_le _
       |cons y ys=>exact hk y (List.mem_cons_self ..)
      exact Nat.le_trans (keyB_len _) (by omega)
     ·simp
    rw[keyL,List.length_append,List.length_append,nodL,Nat.add_mul];omega
  have h4:=hL xs ks ih h3 r2 h2;have e:(Tr.nd k n t ks xs).t=t:=rfl;rw[e]at h1;rw[keyT,nodT,Nat.add_mul,Nat.one_mul];split
  ·have:=keySc_len (k,n,kb t)
   have e2:(kb t).length=t.size:=Array.length_toList;rw[e2]at this;omega
  ·rw[List.length_cons,List.length_append,List.length_singleton]
   omega
theorem good_rng (a:Tr):Good a->RngT a:=by
 induction a using tr_ind with
 |h k n t ks xs ih=>
  intro h;refine rngT_iff.2 ⟨?_,fun x hx=>ih x hx (h.part hx)⟩;rcases(good_iff.1 h).2 with h|⟨h,_⟩
  ·exact h.2.2.2.1
  ·rw[show(Tr.nd k n t ks xs).n=0 from h];exact inr0
def ValB (a:Tr):Prop:=ValT a/\TxtT 3000 a
theorem ValB.part {a x:Tr} (h:ValB a) (hx:x∈a.xs):ValB x:=⟨h.1.part hx,h.2.part hx⟩
theorem ValB.key {a:Tr} (h:ValB a):(keyT a).length<=200000000:=by
 have h1:=keyT_len a h.2 (good_rng a h.1.1);have h2:=h.1.2.2;have h3:nodT a*(4*3000+50)<=16384*(4*3000+50):=Nat.mul_le_mul_right _ h2;omega
theorem ValB.kB {a:Tr} (h:ValB a):(kB a).size<=200000000:=by
 have:=h.key;simp only[Go.Proofs.YtengibnpebfblaaGreatDoor.kB,ByteArray.size,List.size_toArray];exact this
theorem ValB.len {a:Tr} (h:ValB a):a.xs.length<=16383:=by
 have h1:=len_nodL a.xs;have h2:=nodT_eq a;have h3:=h.1.2.2;omega
theorem ValB.kind {a:Tr} (h:ValB a):0<=a.k/\a.k<=6:=by
 rcases(good_iff.1 h.1.1).2 with h|⟨_,_,h|h|h⟩<;>omega
theorem ValB.leaf {a:Tr} (h:ValB a) (h3:a.k<=3):a.ks=[]/\a.xs=[]:=by
 rcases(good_iff.1 h.1.1).2 with h|⟨_,_,h|h|h⟩
 ·exact h.2.2.2.2
 all_goals omega
theorem ValB.inner {a:Tr} (h:ValB a) (h4:4<=a.k):a.n=0/\a.t=⟨#[]⟩:=by
 rcases(good_iff.1 h.1.1).2 with h|⟨h1,h2,_⟩
 ·omega
 ·exact⟨h1,h2⟩
def mkeys (k:Int) (ks:List ByteArray) (xs:List Tr):List ByteArray:=if k=5 then ks else if k=6 then xs.map Go.Proofs.YtengibnpebfblaaGreatDoor.kB else[]
theorem ValB.mkeys {a:Tr} (h:ValB a) (h4:a.k=5\/a.k=6):(mkeys a.k a.ks a.xs).length=a.xs.length/\(Go.Proofs.YtengibnpebfblaaGreatDoor.mkeys a.k a.ks a.xs).Pairwise (fun x y=>kb x<kb y)/\∀y∈Go.Proofs.YtengibnpebfblaaGreatDoor.mkeys a.k a.ks a.xs,y.size<=200000000:=by
 rcases h4 with h5|h6
 ·obtain⟨h1,h2,_⟩:=h.1.1.mapD h5
  unfold Go.Proofs.YtengibnpebfblaaGreatDoor.mkeys;rw[if_pos h5];exact⟨h1,h2,fun y hy=>Nat.le_trans ((txtT_iff.1 h.2).2.1 y hy) (by decide)⟩
 ·obtain⟨h1,h2,_⟩:=h.1.1.setD h6
  unfold Go.Proofs.YtengibnpebfblaaGreatDoor.mkeys;rw[if_neg (by omega),if_pos h6];refine⟨by simp,?_,fun y hy=> ?_⟩
  ·rw[List.pairwise_map]
   exact h2.imp fun h=>by rw[kb_kB,kb_kB];exact h
  ·obtain⟨x,hx,rfl⟩:=List.mem_map.1 hy
   exact(h.part hx).kB
end Go.Proofs.YtengibnpebfblaaGreatDoor
