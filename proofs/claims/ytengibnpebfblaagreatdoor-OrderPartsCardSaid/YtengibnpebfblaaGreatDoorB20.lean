import Derived.Test.YtengibnpebfblaaGreatDoorB13
set_option maxRecDepth 1000000
set_option maxHeartbeats 8000000
set_option linter.unusedSimpArgs false
namespace Go.Proofs.YtengibnpebfblaaGreatDoor
open Go.RowKit Go.Shelf
def IterN {α:Type} (P:Program) (gf:Nat) (lb:Array Value) (encs:α->Array Value) (RK IK:Nat->World->World->Prop) (S Pr:List α->Prop) (w0:World):Prop:=
 ∀(l:Nat) (J:List α->World->Prop) (W:World),Below w0.heap.size w0 W->(∀s A B,J s A->IK W.heap.size A B->J s B)->
  (∀m pre x V,J pre V->W.heap.size<=V.heap.size->Pr (pre++[x])->YieldAt Fence.wide m P l (encs x) V fun e V'=>e=.returned (.bool true)/\J (pre++[x]) V'/\RK W.heap.size V V')->
  J [] W->∀m,CallsIn Fence.wide m P gf (#[.func (.yield l) #[] #[]]++lb) W fun e W'=>(∃v,e=.returned v)/\∃ys,S ys/\J ys W'
theorem IterR.n {α:Type} {P:Program} {gf:Nat} {lb:Array Value} {encs:α->Array Value} {RK IK:Nat->World->World->Prop} {S Sp Pr:List α->Prop} {w0:World} (h:IterR P gf lb encs RK IK S Sp Pr w0):IterN P gf lb encs RK IK S Pr w0:=fun l J W hW hA hY h0 m=>
 (h l J (fun _ _=>False) W hW hA (fun m pre x V a b c=>(hY m pre x V a b c).mono fun _ _ h=>.inl h) h0 m).mono fun _ _ ⟨h1,h2⟩=>⟨h1,h2.elim id fun⟨_,_,h⟩=>h.elim⟩
theorem wpIn_rangeN {α:Type} {RK IK:Nat->World->World->Prop} {P:Program} {n n₀:Nat} {g:Operand} {ps:Array Tmp} {assign body:Code} {Q:Exit->Act->World->Prop} {a:Act} {w:World} (hn₀:n₀<=w.heap.size) (hok:KeepsOk RK IK n₀)
  {gf:Nat} {lb:Array Value} (hg:a.eval g=.func (.func gf) #[] lb) (eg:∀args w,(callFunc gf args).run P w=.ok (.enter gf args) w)
  {encs:α->Array Value} {S:List α->Prop} {Pr:List α->Prop} (hseq:IterN P gf lb encs RK IK S Pr w) (hps:∀x,(encs x).size=ps.size)
  (I:List α->World->Prop) (hI:OwnFrom w.heap.size I)
  (hIS:∀s A B,I s A->IK (w.heap.size+2) A B->I s B) (hIb:∀pre A B,I pre A->Below A.heap.size A B->I pre B) (h0:I [] w) (St:α->Nat->World->Prop) (hSt:∀x b (A:World) l o o',A.heap[l]? =some o->o.isCells=false->St x b A->St x b (A.putObj l o')) (hnew:∀{Y:Nat} {A B:World},Below A.heap.size A B->n₀<=A.heap.size->RK Y A B) (a₁:α->Nat->Act)
  (hassign:∀(l:Nat) (x:α) (W:World) (K:Act->World->Prop),(∀b W',Below W.heap.size W W'->St x b W'->K (a₁ x b) W')->
   assign.wpIn (Fence.wide.inRound l) n P (Exit.then K (fun _ _ _=>False)) {tmps:=(ps.zip (encs x)).foldl (fun t (p,v)=>t.setIfInBounds p v) a.tmps,defers:=[]} W)
  (hbody:∀(l:Nat) (pre:List α) (x:α) (b:Nat) (W:World),w.heap.size+2<=W.heap.size->I pre W->St x b W->Pr (pre++[x])->body.wpIn (Fence.wide.inRound l) n P (ownPostG w.heap.size (RK (w.heap.size+2)) I (fun _ _ _=>False) (pre++[x]) W) (a₁ x b) W)
  (hdone:∀(xs:List α) (W:World),S xs->I xs W->W.heap[w.heap.size]? =some (.deferred (some []))->Q .normal {a with defers:={target:=.collected w.heap.size,args:=#[]}::a.defers} W):
  (Code.rangeFunc g ps assign body).wpIn Fence.wide n P Q a w:=by
 refine wpIn_rangeFunc fun fn hfn=> ?_
 rw[show Fence.wide.round=none from rfl];obtain⟨rec,hrec⟩:∃rec:LoopState->Option Code->Loop,rec=fun st pe=>{state:=st,pending:=pe,fn,tmps:=a.tmps,params:=ps,assign,body,defers:=w.heap.size}:=⟨_,rfl⟩
 obtain⟨V0,hV0⟩:∃V0,V0=(w.alloc (.deferred (some []))).alloc (.loop (rec .ready none)):=⟨_,rfl⟩
 have hsz:V0.heap.size=w.heap.size+2:=by rw[hV0];simp
 have hrow:V0.heap[w.heap.size+1]? =some (.loop (rec .ready none)):=by
  have h:=World.alloc_heap_new (w.alloc (.deferred (some []))) (.loop (rec .ready none));rwa[World.size_alloc,<-hV0]at h
 have hdef:V0.heap[w.heap.size]? =some (.deferred (some [])):=by
  rw[hV0];exact(Below.heap_alloc _ _ _ (by simp)).trans (World.alloc_heap_new w _)
 have hbl:Below w.heap.size w V0:=by rw[hV0];exact Below.more (Below.newly' _ _) _
 have hI0:I [] V0:=by rw[hV0];exact hI.alloc _ (hI.alloc _ h0)
 obtain⟨bk,hbk⟩:∃bk:Loop->World->Prop,bk=fun r V=>V.heap[w.heap.size+1]? =some (.loop r)/\V.heap[w.heap.size]? =some (.deferred (some [])):=⟨_,rfl⟩
 have bk_block:∀{r:Loop} {A B:World},bk r A->B.heap[w.heap.size+1]? =A.heap[w.heap.size+1]? ->B.heap[w.heap.size]? =A.heap[w.heap.size]? ->bk r B:=fun h h1 h2=>by
  rw[hbk]at h ⊢;exact⟨h1.trans h.1,h2.trans h.2⟩
 have bk_lt:∀{r:Loop} {A:World},bk r A->w.heap.size+1<A.heap.size:=fun h=>by
  rw[hbk]at h;exact(gZ h.1)
 have bk_put:∀{r r':Loop} {A:World},bk r A->bk r' (A.putObj (w.heap.size+1) (.loop r')):=fun h=>by
  have hlt:=bk_lt h;rw[hbk]at h ⊢;exact⟨World.putObj_heap_same hlt,(World.putObj_heap_other (by omega)).trans h.2⟩
 have bk_keep:∀{r:Loop} {A B:World},bk r A->KeepsFrom w.heap.size A B->bk r B:=fun h k=>by
  rw[hbk]at h ⊢;exact⟨k.same _ _ (by omega) h.1 rfl,k.same _ _ (Nat.le_refl _) h.2 rfl⟩
 have hrun:CallsIn Fence.wide (n-1) P gf (#[.func (.yield (w.heap.size+1)) #[] #[]]++lb) V0
   (rangePost Fence.wide n P (w.heap.size+1) Q {a with defers:=[{target:=.collected w.heap.size,args:=#[]}]++a.defers}):=by
  refine(hseq (w.heap.size+1) (fun pre V=>I pre V/\bk (rec .ready none) V) V0 hbl
   (fun s A B h hb=>by
    rw[hsz]at hb;have hlt:=bk_lt h.2;exact⟨hIS s A B h.1 hb,bk_block h.2 (hok.low hb (by omega) hlt) (hok.low hb (by omega) (by omega))⟩)
   ?_ ⟨hI0,by rw[hbk];exact⟨hrow,hdef⟩⟩ (n-1)).mono ?_
  ·rintro m pre x V ⟨hi,hb⟩ hV hlen
   rw[hsz]at hV ⊢;have hb1:=hb;rw[hbk]at hb1;have hy:=run_yield (P:=P) (args:=encs x) hb1.1 (by rw[hrec];exact hps x);have hround:YieldAt Fence.wide n P (w.heap.size+1) (encs x) V fun e V'=>
     e=.returned (.bool true)/\(I (pre++[x]) V'/\bk (rec .ready none) V')/\RK (w.heap.size+2) V V':=by
    rw[hrec]at hy;refine⟨fn,_,assign,body,hy,roundIn_of_wpIn hfn (hassign _ x V _ fun b W' hbW hst=> ?_)⟩;have hlt0:=bk_lt hb;have hbW':bk (rec .ready none) W':=bk_block hb (hbW.block _ hlt0) (hbW.block _ (by omega));have hb1W:=hbW';rw[hbk]at hb1W;refine⟨_,run_beginRound hb1W.1 (by rw[hrec]),?_⟩;obtain⟨Vb,hVb⟩:∃Vb,Vb=W'.putObj (w.heap.size+1) (.loop {rec .ready none with state:=.busy}):=⟨_,rfl⟩
    have hks:RK (w.heap.size+2) V Vb:=by rw[hVb];exact hok.trans (hnew hbW (by omega)) (hok.put hb1W.1 rfl (by omega) (by omega))
    have hbb:bk {rec .ready none with state:=.busy} Vb:=by rw[hVb];exact bk_put hbW'
    have hib:I pre Vb:=by rw[hVb];exact hI.putObj _ (hIb _ _ _ hi hbW) (by omega) hb1W.1 rfl
    have hstb:St x b Vb:=by rw[hVb];exact hSt _ _ _ _ _ _ hb1W.1 rfl hst
    have hszW:=hbW.size;rw[<-hVb];refine wpIn_mono (hbody _ pre x b Vb (by rw[hVb];simp;omega) hib hstb hlen) ?_;have fin:∀(jump:Option Code) (V3:World),KeepsFrom w.heap.size Vb V3->
      (Instr.endRound (w.heap.size+1) jump).run P V3=.ok (.bool jump.isNone) (V3.putObj (w.heap.size+1) (.loop (rec (if jump.isNone then .ready else .done) jump)))/\bk {rec .ready none with state:=.busy} V3:=fun jump V3 hk=>by
     have h3:=bk_keep hbb hk;have h4:=h3;rw[hbk]at h4;have h5:=run_endRound (P:=P) jump h4.1;rw[hrec]at h5 ⊢;exact⟨h5,by rw[hrec]at h3;exact h3⟩
    rintro e a3 V3 hp;cases e with
    |normal=>
     obtain⟨hk,hkp,hi3⟩:=hp;obtain⟨hr,hb3⟩:=fin none V3 hk;have hb4:=hb3;rw[hbk]at hb4;exact⟨_,_,hr,⟨rfl,⟨hI.putObj _ hi3 (by omega) hb4.1 rfl,bk_put hb3⟩,hok.trans (hok.trans hks hkp) (hok.put hb4.1 rfl (by omega) (by omega))⟩⟩
    |ret=>exact hp.2.elim
    |exit id=>exact hp.2.elim
    |goto t=>exact hp.2.elim
    |panic ch=>exact hp.elim
    |outgrown=>exact hp.elim
   exact yield_any hround
  ·rintro e V2 ⟨⟨v,rfl⟩,xs,hS,hi,hb⟩
   have hb1:=hb;rw[hbk]at hb1;refine⟨none,_,by have h:=run_endLoop (P:=P) hb1.1 (by rw[hrec];simp);rw[hrec]at h;exact h,hdone xs _ hS (hI.putObj _ hi (by omega) hb1.1 rfl) ((World.putObj_heap_other (by omega)).trans hb1.2)⟩
 have henter:(Instr.enterLoop fn a.tmps ps assign body none).run P w=.ok (w.heap.size+1,[{target:=.collected w.heap.size,args:=#[]}]) V0:=by
  rw[hV0,hrec];exact run_enterLoop_outer _ _ _ _ _
 refine⟨w.heap.size+1,[{target:=.collected w.heap.size,args:=#[]}],V0,{target:=.fn (.func gf) lb,args:=#[.func (.yield (w.heap.size+1)) #[] #[]]},V0,gf,#[.func (.yield (w.heap.size+1)) #[] #[]]++lb,V0,?_,?_,?_,?_,?_,?_⟩
 ·exact henter
 ·exact range_resolves hg _ _
 ·intro f' _;exact trivial
 ·exact range_enters eg _ _
 ·intro h;exact absurd h (by simp[Fence.wide])
 ·exact hrun
def TxV (w:World) (v:Value) (l:List ByteArray):Prop:=
 ∃(a:Option Addr) (cap b o:Nat),v=.slice a l.length cap/\(0<l.length->a=some ⟨b,o,none⟩)/\(∀j (h:j<l.length),w.cell? ⟨b,o+j,none⟩=some (.string l[j]))/\l.length<=maxLen
theorem TxV.later {w w':World} {v:Value} {l:List ByteArray} (h:TxV w v l) (hb:Below w.heap.size w w'):TxV w' v l:=by
 obtain⟨a,cap,b,o,h1,h2,h3,h4⟩:=h;exact⟨a,cap,b,o,h1,h2,fun j hj=>(hb.cell (World.block_lt_of_cell? w _ (h3 j hj))).trans (h3 j hj),h4⟩
abbrev trC (k n:Int) (t:ByteArray) (kv xv:Value):Array Value:=#[.int .i64 k,.int .i64 n,.string t,kv,xv]
mutual
def TrV (w:World):Tr->Value->Prop
 | .nd k n t ks xs,v=>∃kv xv,v=.agg (trC k n t kv xv)/\t.size<=maxLen/\InR k/\InR n/\TxV w kv ks/\∃(a:Option Addr) (cap b o:Nat),xv=.slice a xs.length cap/\(0<xs.length->a=some ⟨b,o,none⟩)/\xs.length<=maxLen/\TrL w xs b o
def TrL (w:World):List Tr->Nat->Nat->Prop
 |[],_,_=>True
 |x::r,b,o=>(∃cs:Array Value,cs.size=5/\w.rangeAt b o cs.toList/\TrV w x (.agg cs))/\TrL w r b (o+5)
end
theorem trL_at {w:World}:∀{xs:List Tr} {b o j:Nat} (_:TrL w xs b o) (hj:j<xs.length),∃cs:Array Value,cs.size=5/\w.rangeAt b (o+j*5) cs.toList/\TrV w xs[j] (.agg cs)
 |[],_,_,_,_,hj=>by simp at hj
 |x::r,b,o,0,h,_=>by rw[TrL]at h;simpa using h.1
 |x::r,b,o,j+1,h,hj=>by
  rw[TrL]at h;have:=trL_at (j:=j) h.2 (by simpa using hj);rw[show o+(j+1)*5=o+5+j*5 by omega];simpa using this
theorem trL_of {w:World}:∀{xs:List Tr} {b o:Nat},(∀j (hj:j<xs.length),∃cs:Array Value,cs.size=5/\w.rangeAt b (o+j*5) cs.toList/\TrV w xs[j] (.agg cs))->TrL w xs b o
 |[],_,_,_=>by rw[TrL];trivial
 |x::r,b,o,h=>by
  rw[TrL];refine⟨?_,trL_of fun j hj=> ?_⟩
  ·obtain⟨cs,h1,h2,h3⟩:=h 0 (by simp)
   exact⟨cs,h1,by simpa using h2,h3⟩
  have:=h (j+1) (by simpa using hj);rw[show o+(j+1)*5=o+5+j*5 by omega]at this;simpa using this
theorem trV_later {w w':World} (hb:Below w.heap.size w w') (a:Tr):∀v,TrV w a v->TrV w' a v:=by
 induction a using tr_ind with
 |h k n t ks xs ih=>
  intro v hv;rw[TrV]at hv ⊢;obtain⟨kv,xv,h1,h2,h3,h4,h5,a,cap,b,o,h6,h7,h8,h9⟩:=hv;refine⟨kv,xv,h1,h2,h3,h4,h5.later hb,a,cap,b,o,h6,h7,h8,trL_of fun j hj=> ?_⟩;obtain⟨cs,c1,c2,c3⟩:=trL_at h9 hj;exact⟨cs,c1,fun i v hv=>(hb.cell (World.block_lt_of_cell? w _ (c2 i v hv))).trans (c2 i v hv),ih _ (List.getElem_mem hj) _ c3⟩
theorem TrV.later {w w':World} {a:Tr} {v:Value} (h:TrV w a v) (hb:Below w.heap.size w w'):TrV w' a v:=trV_later hb a v h
theorem TrV.open' {w:World} {k n:Int} {t:ByteArray} {ks:List ByteArray} {xs:List Tr} {v:Value} (h:TrV w (.nd k n t ks xs) v):
  ∃kv xv,v=.agg (trC k n t kv xv)/\t.size<=maxLen/\InR k/\InR n/\TxV w kv ks/\∃(a:Option Addr) (cap b o:Nat),xv=.slice a xs.length cap/\(0<xs.length->a=some ⟨b,o,none⟩)/\xs.length<=maxLen/\∀j (hj:j<xs.length),∃cs:Array Value,cs.size=5/\w.rangeAt b (o+j*5) cs.toList/\TrV w xs[j] (.agg cs):=by
 rw[TrV]at h;obtain⟨kv,xv,h1,h2,h3,h4,h5,a,cap,b,o,h6,h7,h8,h9⟩:=h;exact⟨kv,xv,h1,h2,h3,h4,h5,a,cap,b,o,h6,h7,h8,fun j hj=>trL_at h9 hj⟩
section
variable {β : Type} (f : β → List UInt8)
def putB (l:List β) (x:β):List β:=l.takeWhile (fun y=>decide (f y<f x))++x::l.dropWhile (fun y=>decide (f y<f x))
def srtB (l:List β):List β:=l.foldl (putB f) []
def RiseB (l:List β):Prop:=l.Pairwise fun a b=>f a<f b
variable {f}
theorem putB_perm (l:List β) (x:β):(putB f l x).Perm (x::l):=by
 unfold putB;refine List.perm_middle.trans ?_;rw[List.takeWhile_append_dropWhile]
theorem putB_rise {l:List β} {x:β} (h:RiseB f l) (hx:∀y∈l,f y≠f x):RiseB f (putB f l x):=by
 induction l with
 |nil=>unfold RiseB putB;simp
 |cons a l ih=>
  unfold RiseB at h ih ⊢;rw[List.pairwise_cons]at h;unfold putB at ih ⊢;by_cases hp:f a<f x
  ·rw[List.takeWhile_cons,List.dropWhile_cons,if_pos (by simpa using hp),if_pos (by simpa using hp),List.cons_append,List.pairwise_cons]
   refine⟨fun b hb=> ?_,ih h.2 (fun y hy=>hx y (List.mem_cons_of_mem _ hy))⟩;have:=(putB_perm (f:=f) l x).mem_iff.1 hb;rcases List.mem_cons.1 this with rfl|hb
   ·exact hp
   ·exact h.1 b hb
  ·rw[List.takeWhile_cons,List.dropWhile_cons,if_neg (by simpa using hp),if_neg (by simpa using hp),List.nil_append,List.pairwise_cons,List.pairwise_cons]
   have hlt:f x<f a:=by
    rcases total_l (f x) (f a) (fun e=>hx a (List.mem_cons_self ..) e.symm)with h|h
    ·exact h
    ·exact absurd h hp
   refine⟨fun b hb=> ?_,h⟩;rcases List.mem_cons.1 hb with rfl|hb
   ·exact hlt
   ·exact List.lt_trans hlt (h.1 b hb)
theorem fold_perm (l:List β):∀acc:List β,(l.foldl (putB f) acc).Perm (acc++l):=by
 induction l with
 |nil=>intro acc;simp
 |cons x l ih=>
  intro acc;rw[List.foldl_cons];refine(ih _).trans ?_;refine((putB_perm acc x).append_right l).trans ?_;rw[List.cons_append];exact List.perm_middle.symm
theorem srt_perm (l:List β):(srtB f l).Perm l:=by
 have h:=fold_perm (f:=f) l [];rw[List.nil_append]at h;exact h
theorem fold_rise (l:List β):∀acc:List β,RiseB f acc->((acc++l).map f).Nodup->RiseB f (l.foldl (putB f) acc):=by
 induction l with
 |nil=>intro acc h _;exact h
 |cons x l ih=>
  intro acc h hn;rw[List.foldl_cons];refine ih _ (putB_rise h fun y hy e=> ?_) ?_
  ·rw[List.map_append,List.map_cons,List.nodup_append]at hn
   exact hn.2.2 (f y) (List.mem_map_of_mem hy) (f x) (List.mem_cons_self ..) e
  ·refine(List.Perm.nodup_iff (List.Perm.map f ?_)).2 hn
   refine((putB_perm acc x).append_right l).trans ?_;rw[List.cons_append];exact List.perm_middle.symm
theorem srt_rise {l:List β} (h:(l.map f).Nodup):RiseB f (srtB f l):=fold_rise l [] List.Pairwise.nil (by simpa using h)
theorem RiseB.nodup {l:List β} (h:RiseB f l):(l.map f).Nodup:=by
 unfold List.Nodup;rw[List.pairwise_map];exact List.Pairwise.imp (fun {a b} (hab:f a<f b) (e:f a=f b)=>lt_irrefl_l (f b) (by rwa[e]at hab)) h
theorem rise_uniq {l m:List β} (hl:RiseB f l) (hm:RiseB f m) (h:l.Perm m):l=m:=
 List.Perm.eq_of_pairwise (le:=fun a b=>f a<f b) (fun _ _ _ _ hab hba=>absurd (List.lt_trans hab hba) (lt_irrefl_l _)) hl hm h
theorem srt_id {l:List β} (h:RiseB f l):srtB f l=l:=rise_uniq (srt_rise h.nodup) h (srt_perm l)
theorem srt_ext {l m:List β} (h:(l.map f).Nodup) (hp:l.Perm m):srtB f l=srtB f m:=
 rise_uniq (srt_rise h) (srt_rise ((hp.map f).nodup_iff.1 h)) (((srt_perm l).trans hp).trans (srt_perm m).symm)
end
abbrev kbF (p:ByteArray×Tr):List UInt8:=kb p.1
mutual
def canT:Tr->Tr
 | .nd k n t ks xs=>
  if k=5 then .nd k n t ((srtB kbF (ks.zip (canL xs))).map (·.1)) ((srtB kbF (ks.zip (canL xs))).map (·.2))
  else if k=6 then .nd k n t [] (srtB keyT (canL xs))
  else .nd k n t [] (canL xs)
def canL:List Tr->List Tr
 |[]=>[]
 |x::r=>canT x::canL r
end
theorem canL_map (l:List Tr):canL l=l.map canT:=by
 induction l with
 |nil=>rw[canL];rfl
 |cons x l ih=>rw[canL,ih];rfl
def ownT (a:Tr):Int:=
 if a.k<0\/6<a.k then 3
 else if a.k<=3 then(if a.ks≠[]\/a.xs.length≠0 then 1 else chkSc (a.k,a.n,kb a.t))
 else if a.n≠0\/a.t≠⟨#[]⟩then 1
 else if(a.k=5/\a.ks.length≠a.xs.length)\/(a.k≠5/\a.ks≠[])then 1
 else if¬a.ks.Nodup then 6 else 0
mutual
def lookT:Tr->Nat->Nat->Nat×Int
 | .nd k n t ks xs,d,m=>
  if 64<d then(m+1,7)else if 16384<m+1 then(m+1,8)
  else if ownT (.nd k n t ks xs)≠0 then(m+1,ownT (.nd k n t ks xs))
  else if(lookL xs (d+1) (m+1)).2≠0 then lookL xs (d+1) (m+1)
  else if k=6/\¬((canL xs).map keyT).Nodup then((lookL xs (d+1) (m+1)).1,6)
  else((lookL xs (d+1) (m+1)).1,0)
def lookL:List Tr->Nat->Nat->Nat×Int
 |[],_,m=>(m,0)
 |x::r,d,m=>if(lookT x d m).2≠0 then lookT x d m else lookL r d (lookT x d m).1
end
def chkT (a:Tr):Int:=(lookT a 1 0).2
mutual
def OkT:Tr->Prop
 | .nd k n t ks xs=>ownT (.nd k n t ks xs)=0/\OkL xs/\(k=6->((canL xs).map keyT).Nodup)
def OkL:List Tr->Prop
 |[]=>True
 |x::r=>OkT x/\OkL r
end
theorem okL_iff {l:List Tr}:OkL l↔∀x∈l,OkT x:=by
 induction l with
 |nil=>simp[OkL]
 |cons x l ih=>rw[OkL,ih];simp
theorem look_ok (a:Tr):∀d m,((lookT a d m).2=0↔OkT a/\depT a+d<=65/\m+nodT a<=16384)/\((lookT a d m).2=0->(lookT a d m).1=m+nodT a):=by
 induction a using tr_ind with
 |h k n t ks xs ih=>
  intro d m;have hL:∀(l:List Tr),(∀x∈l,∀d m,((lookT x d m).2=0↔OkT x/\depT x+d<=65/\m+nodT x<=16384)/\((lookT x d m).2=0->(lookT x d m).1=m+nodT x))->∀d m,d<=65->m<=16384->
    ((lookL l d m).2=0↔OkL l/\depL l+d<=65/\m+nodL l<=16384)/\((lookL l d m).2=0->(lookL l d m).1=m+nodL l):=by
   intro l;induction l with
   |nil=>intro _ d m hd hm;rw[lookL,OkL,depL,nodL];simp;omega
   |cons x r ih2=>
    intro hi d m hd hm;obtain⟨h1,h2⟩:=hi x (List.mem_cons_self ..) d m;rw[lookL,OkL,depL,nodL];by_cases hz:(lookT x d m).2=0
    ·rw[if_neg (by simpa using hz),h2 hz]
     obtain⟨o1,o2,o3⟩:=h1.1 hz;obtain⟨h3,h4⟩:=ih2 (fun y hy=>hi y (List.mem_cons_of_mem _ hy)) d (m+nodT x) hd (by omega);rw[h3];refine⟨⟨fun⟨a,b,c⟩=>⟨⟨o1,a⟩,by omega,by omega⟩,fun⟨⟨_,a⟩,b,c⟩=>⟨a,by omega,by omega⟩⟩,fun h=> ?_⟩;rw[h4 (h3.2 h)];omega
    ·rw[if_pos (by simpa using hz)]
     refine⟨⟨fun h=>absurd h hz,fun⟨⟨a,_⟩,b,c⟩=>absurd (h1.2 ⟨a,by omega,by omega⟩) hz⟩,fun h=>absurd h hz⟩
  rw[lookT,OkT,depT,nodT];by_cases h1:64<d
  ·rw[if_pos h1]
   simp;omega
  rw[if_neg h1];by_cases h2:16384<m+1
  ·rw[if_pos h2]
   simp;omega
  rw[if_neg h2];by_cases h3:ownT (.nd k n t ks xs)=0
  case neg=>
   rw[if_pos (by simpa using h3)];simp[h3]
  rw[if_neg (by simpa using h3)];obtain⟨h4,h5⟩:=hL xs ih (d+1) (m+1) (by omega) (by omega);by_cases h6:(lookL xs (d+1) (m+1)).2=0
  ·rw[if_neg (by simpa using h6)]
   obtain⟨o1,o2,o3⟩:=h4.1 h6;by_cases h7:k=6/\¬((canL xs).map keyT).Nodup
   ·rw[if_pos h7]
    simp;intro _ _ h8;exact absurd (h8 h7.1) h7.2
   ·rw[if_neg h7,h5 h6]
    refine⟨⟨fun _=>⟨⟨h3,o1,fun hk=> ?_⟩,by omega,by omega⟩,fun _=>rfl⟩,fun _=>by omega⟩;exact Decidable.byContradiction fun hn=>h7 ⟨hk,hn⟩
  ·rw[if_pos (by simpa using h6)]
   refine⟨⟨fun h=>absurd h h6,fun⟨⟨_,a,_⟩,b,c⟩=>absurd (h4.2 ⟨a,by omega,by omega⟩) h6⟩,fun h=>absurd h h6⟩
theorem chkT_ok {a:Tr}:chkT a=0↔OkT a/\depT a<=64/\nodT a<=16384:=by
 unfold chkT;rw[(look_ok a 1 0).1];constructor
 ·rintro⟨h1,h2,h3⟩;exact⟨h1,by omega,by omega⟩
 ·rintro⟨h1,h2,h3⟩;exact⟨h1,by omega,by omega⟩
mutual
def RngT:Tr->Prop
 | .nd _ n _ _ xs=>InR n/\RngL xs
def RngL:List Tr->Prop
 |[]=>True
 |x::r=>RngT x/\RngL r
end
theorem rngL_iff {l:List Tr}:RngL l↔∀x∈l,RngT x:=by
 induction l with
 |nil=>simp[RngL]
 |cons x l ih=>rw[RngL,ih];simp
theorem okT_iff {a:Tr}:OkT a↔ownT a=0/\(∀x∈a.xs,OkT x)/\(a.k=6->((a.xs.map canT).map keyT).Nodup):=by
 cases a with
 |nd k n t ks xs=>rw[OkT,okL_iff,canL_map];rfl
theorem rngT_iff {a:Tr}:RngT a↔InR a.n/\∀x∈a.xs,RngT x:=by
 cases a with
 |nd k n t ks xs=>rw[RngT,rngL_iff];rfl
theorem own_ok {a:Tr}:ownT a=0↔(0<=a.k/\a.k<=3/\chkSc (a.k,a.n,kb a.t)=0/\a.ks=[]/\a.xs=[])\/(a.n=0/\a.t=⟨#[]⟩/\((a.k=4/\a.ks=[])\/(a.k=5/\a.ks.length=a.xs.length/\a.ks.Nodup)\/(a.k=6/\a.ks=[]))):=by
 unfold ownT;by_cases h1:a.k<0\/6<a.k
 ·rw[if_pos h1]
  constructor
  ·intro h;cases h
  ·rintro(⟨h,h2,_⟩|⟨_,_,h|h|h⟩)<;>omega
 rw[if_neg h1];by_cases h2:a.k<=3
 ·rw[if_pos h2]
  by_cases h3:a.ks≠[]\/a.xs.length≠0
  ·rw[if_pos h3]
   constructor
   ·intro h;cases h
   ·rintro(⟨_,_,_,h4,h5⟩|⟨_,_,h|h|h⟩)
    ·rcases h3 with h|h
     ·exact absurd h4 h
     ·rw[h5]at h;exact absurd rfl h
    all_goals omega
  ·rw[if_neg h3]
   constructor
   ·intro h
    exact .inl ⟨by omega,h2,h,Decidable.byContradiction fun h4=>h3 (.inl h4),List.length_eq_zero_iff.1 (Decidable.byContradiction fun h4=>h3 (.inr h4))⟩
   ·rintro(⟨_,_,h,_⟩|⟨_,_,h|h|h⟩)
    ·exact h
    all_goals omega
 ·rw[if_neg h2]
  by_cases h3:a.n≠0\/a.t≠⟨#[]⟩
  ·rw[if_pos h3]
   constructor
   ·intro h;cases h
   ·rintro(⟨_,h,_⟩|⟨h4,h5,_⟩)
    ·omega
    ·rcases h3 with h|h
     ·exact absurd h4 h
     ·exact absurd h5 h
  ·rw[if_neg h3]
   have hn:a.n=0:=Decidable.byContradiction fun h4=>h3 (.inl h4)
   have ht:a.t=⟨#[]⟩:=Decidable.byContradiction fun h4=>h3 (.inr h4)
   by_cases h5:(a.k=5/\a.ks.length≠a.xs.length)\/(a.k≠5/\a.ks≠[])
   ·rw[if_pos h5]
    constructor
    ·intro h;cases h
    ·rintro(⟨_,h,_⟩|⟨_,_,h|h|h⟩)
     ·omega
     ·rcases h5 with h6|h6
      ·omega
      ·exact absurd h.2 h6.2
     ·rcases h5 with h6|h6
      ·exact absurd h.2.1 h6.2
      ·omega
     ·rcases h5 with h6|h6
      ·omega
      ·exact absurd h.2 h6.2
   ·rw[if_neg h5]
    have hks:a.k≠5->a.ks=[]:=fun hk=>Decidable.byContradiction fun h6=>h5 (.inr ⟨hk,h6⟩)
    by_cases h6:a.ks.Nodup
    ·rw[if_neg (by simpa using h6)]
     refine⟨fun _=>.inr ⟨hn,ht,?_⟩,fun _=>rfl⟩;have hk:a.k=4\/a.k=5\/a.k=6:=by omega
     rcases hk with hk|hk|hk
     ·exact .inl ⟨hk,hks (by omega)⟩
     ·exact .inr (.inl ⟨hk,Decidable.byContradiction fun h7=>h5 (.inl ⟨hk,h7⟩),h6⟩)
     ·exact .inr (.inr ⟨hk,hks (by omega)⟩)
    ·rw[if_pos h6]
     constructor
     ·intro h;cases h
     ·rintro(⟨_,h,_⟩|⟨_,_,h|h|h⟩)
      ·omega
      ·rw[h.2]at h6;exact absurd List.nodup_nil h6
      ·exact absurd h.2.2 h6
      ·rw[h.2]at h6;exact absurd List.nodup_nil h6
theorem zip_fst {α β:Type}:∀(l:List α) (m:List β),l.length=m.length->(l.zip m).map (·.1)=l
 |[],[],_=>rfl
 |a::l,b::m,h=>by simp only[List.zip_cons_cons,List.map_cons];rw[zip_fst l m (by simpa using h)]
 |[],_::_,h=>by simp at h
 |_::_,[],h=>by simp at h
theorem zip_snd {α β:Type}:∀(l:List α) (m:List β),l.length=m.length->(l.zip m).map (·.2)=m
 |[],[],_=>rfl
 |a::l,b::m,h=>by simp only[List.zip_cons_cons,List.map_cons];rw[zip_snd l m (by simpa using h)]
 |[],_::_,h=>by simp at h
 |_::_,[],h=>by simp at h
theorem nodup_kb {l:List ByteArray}:(l.map kb).Nodup↔l.Nodup:=by
 unfold List.Nodup;rw[List.pairwise_map];constructor
 ·intro h;exact List.Pairwise.imp (fun {a b} (hab:kb a≠kb b) (e:a=b)=>hab (by rw[e])) h
 ·intro h;exact List.Pairwise.imp (fun {a b} (hab:a≠b) (e:kb a=kb b)=>hab (kb_inj e)) h
theorem pairs_nodup {ks:List ByteArray} {l:List Tr} (hl:ks.length=l.length) (h:ks.Nodup):((ks.zip l).map kbF).Nodup:=by
 have e:(ks.zip l).map kbF=ks.map kb:=by
  have h1:=zip_fst ks l hl
  conv=>rhs;rw[<-h1]
  rw[List.map_map];rfl
 rw[e];exact nodup_kb.2 h
theorem can_good (a:Tr):OkT a->RngT a->Good (canT a):=by
 induction a using tr_ind with
 |h k n t ks xs ih=>
  intro ho hr;rw[okT_iff]at ho;rw[rngT_iff]at hr;simp only[Tr.k,Tr.n,Tr.t,Tr.ks,Tr.xs]at ho hr;have hp:∀y∈canL xs,Good y:=by
   intro y hy;rw[canL_map]at hy;obtain⟨x,hx,rfl⟩:=List.mem_map.1 hy;exact ih x hx (ho.2.1 x hx) (hr.2 x hx)
  have hlen:(canL xs).length=xs.length:=by rw[canL_map,List.length_map]
  have h0:=own_ok.1 ho.1;simp only[Tr.k,Tr.n,Tr.t,Tr.ks,Tr.xs]at h0;rw[canT];rw[good_iff];rcases h0 with⟨h1,h2,h3,rfl,rfl⟩|⟨rfl,rfl,⟨rfl,rfl⟩|⟨rfl,h4,h5⟩|⟨rfl,rfl⟩⟩
  ·rw[if_neg (by omega),if_neg (by omega)]
   refine⟨hp,.inl ⟨h1,h2,h3,hr.1,rfl,?_⟩⟩;show canL []=[]
   rw[canL]
  ·rw[if_neg (by decide),if_neg (by decide)]
   exact⟨hp,.inr ⟨rfl,rfl,.inl ⟨rfl,rfl⟩⟩⟩
  ·rw[if_pos rfl]
   have hn:=pairs_nodup (l:=canL xs) (by omega) h5;refine⟨fun y hy=> ?_,.inr ⟨rfl,rfl,.inr (.inl ⟨rfl,?_,?_⟩)⟩⟩
   ·obtain⟨q,hq,rfl⟩:=List.mem_map.1 (show y∈(srtB kbF (ks.zip (canL xs))).map (·.2)from hy)
    have:=(srt_perm (f:=kbF) (ks.zip (canL xs))).mem_iff.1 hq;exact hp _ (List.of_mem_zip this).2
   ·show((srtB kbF (ks.zip (canL xs))).map (·.1)).length=((srtB kbF (ks.zip (canL xs))).map (·.2)).length
    rw[List.length_map,List.length_map]
   ·show((srtB kbF (ks.zip (canL xs))).map (·.1)).Pairwise _
    rw[List.pairwise_map];exact srt_rise hn
  ·rw[if_neg (by decide),if_pos rfl]
   refine⟨fun y hy=> ?_,.inr ⟨rfl,rfl,.inr (.inr ⟨rfl,rfl,?_⟩)⟩⟩
   ·exact hp y ((srt_perm (f:=keyT) (canL xs)).mem_iff.1 hy)
   ·show(srtB keyT (canL xs)).Pairwise _
    refine srt_rise ?_;rw[canL_map];exact ho.2.2 rfl
theorem map_self {α:Type} {f:α->α}:∀{l:List α},(∀x∈l,f x=x)->l.map f=l
 |[],_=>rfl
 |x::l,h=>by rw[List.map_cons,h x (List.mem_cons_self ..),map_self fun y hy=>h y (List.mem_cons_of_mem _ hy)]
theorem can_id (a:Tr):Good a->canT a=a:=by
 induction a using tr_ind with
 |h k n t ks xs ih=>
  intro hg;rw[good_iff]at hg;simp only[Tr.k,Tr.n,Tr.t,Tr.ks,Tr.xs]at hg;have hc:canL xs=xs:=by rw[canL_map];exact map_self fun x hx=>ih x hx (hg.1 x hx)
  rw[canT,hc];rcases hg.2 with⟨_,h2,_,_,rfl,rfl⟩|⟨rfl,rfl,⟨rfl,rfl⟩|⟨rfl,h4,h5⟩|⟨rfl,rfl,h5⟩⟩
  ·rw[if_neg (by omega),if_neg (by omega)]
  ·rw[if_neg (by decide),if_neg (by decide)]
  ·rw[if_pos rfl]
   have hr:RiseB kbF (ks.zip xs):=by
    have e:((ks.zip xs).map (·.1)).Pairwise fun a b=>kb a<kb b:=by rw[zip_fst ks xs h4];exact h5
    rw[List.pairwise_map]at e;exact e
   rw[srt_id hr,zip_fst ks xs h4,zip_snd ks xs h4]
  ·rw[if_neg (by decide),if_pos rfl,srt_id h5]
theorem good_ok (a:Tr):Good a->OkT a:=by
 induction a using tr_ind with
 |h k n t ks xs ih=>
  intro hg;have hg0:=hg;rw[good_iff]at hg;simp only[Tr.k,Tr.n,Tr.t,Tr.ks,Tr.xs]at hg;have hc:xs.map canT=xs:=map_self fun x hx=>can_id x (hg.1 x hx)
  rw[okT_iff];refine⟨own_ok.2 ?_,fun x hx=>ih x hx (hg.1 x hx),fun hk=> ?_⟩
  ·simp only[Tr.k,Tr.n,Tr.t,Tr.ks,Tr.xs]
   rcases hg.2 with⟨h1,h2,h3,_,h4,h5⟩|⟨h1,h2,h|⟨h3,h4,h5⟩|h⟩
   ·exact .inl ⟨h1,h2,h3,h4,h5⟩
   ·exact .inr ⟨h1,h2,.inl h⟩
   ·refine .inr ⟨h1,h2,.inr (.inl ⟨h3,h4,?_⟩)⟩
    exact List.Pairwise.imp (fun {a b} (hab:kb a<kb b)=>lt_ne hab) h5
   ·exact .inr ⟨h1,h2,.inr (.inr ⟨h.1,h.2.1⟩)⟩
  ·have hk':k=6:=hk
   show((xs.map canT).map keyT).Nodup;rw[hc];rcases hg.2 with⟨_,h2,_⟩|⟨_,_,h|h|h⟩
   ·omega
   ·omega
   ·omega
   ·exact RiseB.nodup (f:=keyT) h.2.2
theorem can_size (a:Tr):OkT a->nodT (canT a)=nodT a/\depT (canT a)=depT a:=by
 induction a using tr_ind with
 |h k n t ks xs ih=>
  intro ho;rw[okT_iff]at ho;simp only[Tr.k,Tr.n,Tr.t,Tr.ks,Tr.xs]at ho;have hlen:(canL xs).length=xs.length:=by rw[canL_map,List.length_map]
  have hs:nodL (canL xs)=nodL xs/\depL (canL xs)=depL xs:=by
   have:=fun x hx=>ih x hx (ho.2.1 x hx)
   clear ih ho hlen;induction xs with
   |nil=>rw[canL];exact⟨rfl,rfl⟩
   |cons x r ih2=>
    have h1:=this x (List.mem_cons_self ..);have h2:=ih2 (fun y hy=>this y (List.mem_cons_of_mem _ hy));rw[canL,nodL,nodL,depL,depL];omega
  have h0:=own_ok.1 ho.1;simp only[Tr.k,Tr.n,Tr.t,Tr.ks,Tr.xs]at h0;rw[canT];split
  ·rename_i hk
   have h4:ks.length=(canL xs).length:=by
    rw[hlen];rcases h0 with⟨_,h,_⟩|⟨_,_,h|h|h⟩
    ·omega
    ·omega
    ·exact h.2.1
    ·omega
   have hp:((srtB kbF (ks.zip (canL xs))).map (·.2)).Perm (canL xs):=by
    have:=(srt_perm (f:=kbF) (ks.zip (canL xs))).map (·.2);rwa[zip_snd ks _ h4]at this
   rw[nodT,nodT,depT,depT,nodL_perm hp,depL_perm hp,hs.1,hs.2];exact⟨rfl,rfl⟩
  ·split
   ·have hp:=srt_perm (f:=keyT) (canL xs)
    rw[nodT,nodT,depT,depT,nodL_perm hp,depL_perm hp,hs.1,hs.2];exact⟨rfl,rfl⟩
   ·rw[nodT,nodT,depT,depT,hs.1,hs.2]
    exact⟨rfl,rfl⟩
end Go.Proofs.YtengibnpebfblaaGreatDoor
namespace Go.Proofs.YtengibnpebfblaaGreatDoor
open Go.RowKit
def turnI (n by':Nat):List Nat:=(List.range n).map fun i=>(n-1-i+by') % n
def pickB {β:Type} (I:List Nat) (l:List β):List β:=I.filterMap fun i=>l[i]?
theorem turnI_perm (n c:Nat):(turnI n c).Perm (List.range n):=by
 unfold turnI;rw[List.perm_ext_iff_of_nodup]
 ·intro j
  rw[List.mem_range,List.mem_map];constructor
  ·rintro⟨i,hi,rfl⟩
   have:=List.mem_range.1 hi;exact Nat.mod_lt _ (by omega)
  ·intro hj
   refine⟨(2*n-1+c-j) % n,List.mem_range.2 (Nat.mod_lt _ (by omega)),?_⟩;have h1:=Nat.div_add_mod (2*n-1+c-j) n;have h2:=Nat.mod_lt (2*n-1+c-j) (show 0<n by omega);obtain⟨q,hq⟩:∃q,q=(2*n-1+c-j)/n:=⟨_,rfl⟩
   obtain⟨i,hi⟩:∃i,i=(2*n-1+c-j) % n:=⟨_,rfl⟩
   rw[<-hq,<-hi]at h1;rw[<-hi]at h2 ⊢;cases q with
   |zero=>exfalso;rw[Nat.mul_zero]at h1;omega
   |succ q=>
    rw[Nat.mul_succ]at h1;have e:n-1-i+c=j+n*q:=by omega
    rw[e,Nat.add_mul_mod_self_left,Nat.mod_eq_of_lt hj]
 ·unfold List.Nodup
  rw[List.pairwise_map];refine List.Pairwise.imp_of_mem (fun {a b} ha hb (hab:a≠b) e=> ?_) (List.nodup_range (n:=n));have ha':=List.mem_range.1 ha;have hb':=List.mem_range.1 hb;have h1:=Nat.div_add_mod (n-1-a+c) n;have h2:=Nat.div_add_mod (n-1-b+c) n;rw[e]at h1;rcases Nat.lt_trichotomy ((n-1-a+c)/n) ((n-1-b+c)/n)with h|h|h
  ·have:=Nat.mul_le_mul_left n h
   rw[Nat.mul_succ]at this;omega
  ·rw[h]at h1;omega
  ·have:=Nat.mul_le_mul_left n h
   rw[Nat.mul_succ]at this;omega
 ·exact List.nodup_range
theorem pick_range {β:Type} (l:List β):pickB (List.range l.length) l=l:=by
 unfold pickB;induction l with
 |nil=>rfl
 |cons x l ih=>
  rw[List.length_cons,List.range_succ_eq_map,List.filterMap_cons,List.filterMap_map];simp only[List.getElem?_cons_zero];congr 1
theorem pick_perm {β:Type} (c:Nat) (l:List β):(pickB (turnI l.length c) l).Perm l:=by
 have h:=(turnI_perm l.length c).filterMap fun i=>l[i]?
 have h2:=pick_range l;unfold pickB at h2 ⊢;rw[h2]at h;exact h
theorem pick_zip {α β:Type} {l:List α} {m:List β} (h:l.length=m.length):∀I:List Nat,(pickB I l).zip (pickB I m)=pickB I (l.zip m)
 |[]=>rfl
 |i::I=>by
  have ih:=pick_zip h I;unfold pickB at ih ⊢;rw[List.filterMap_cons,List.filterMap_cons,List.filterMap_cons];by_cases hi:i<l.length
  ·rw[List.getElem?_eq_getElem hi,List.getElem?_eq_getElem (show i<m.length by omega),List.getElem?_eq_getElem (show i<(l.zip m).length by rw[List.length_zip];omega)]
   simp only[List.zip_cons_cons,List.getElem_zip,ih]
  ·rw[List.getElem?_eq_none (by omega),List.getElem?_eq_none (show m.length<=i by omega),List.getElem?_eq_none (show(l.zip m).length<=i by rw[List.length_zip];omega)]
   exact ih
theorem pick_map {α β:Type} (f:α->β) (I:List Nat) (l:List α):pickB I (l.map f)=(pickB I l).map f:=by
 unfold pickB;rw[List.map_filterMap];congr 1
 funext i
 rw[List.getElem?_map]
mutual
def trnT (c:Nat):Tr->Tr
 | .nd k n t ks xs=>.nd k n t (if k=5 then pickB (turnI xs.length c) ks else[]) (if k=4 then trnL c xs else pickB (turnI xs.length c) (trnL c xs))
def trnL (c:Nat):List Tr->List Tr
 |[]=>[]
 |x::r=>trnT c x::trnL c r
end
theorem trnL_map (c:Nat) (l:List Tr):trnL c l=l.map (trnT c):=by
 induction l with
 |nil=>rw[trnL];rfl
 |cons x l ih=>rw[trnL,ih];rfl
theorem can_trn (c:Nat) (a:Tr):OkT a->canT (trnT c a)=canT a/\OkT (trnT c a):=by
 induction a using tr_ind with
 |h k n t ks xs ih=>
  intro ho;have ho1:=okT_iff.1 ho;simp only[Tr.k,Tr.n,Tr.t,Tr.ks,Tr.xs]at ho1;have h0:=own_ok.1 ho1.1;simp only[Tr.k,Tr.n,Tr.t,Tr.ks,Tr.xs]at h0;have hlt:(trnL c xs).length=xs.length:=by rw[trnL_map,List.length_map]
  have hc:canL (trnL c xs)=canL xs:=by
   rw[canL_map,canL_map,trnL_map,List.map_map];exact List.map_congr_left fun x hx=>(ih x hx (ho1.2.1 x hx)).1
  have hk:∀x∈trnL c xs,OkT x:=by
   intro x hx;rw[trnL_map]at hx;obtain⟨y,hy,rfl⟩:=List.mem_map.1 hx;exact(ih y hy (ho1.2.1 y hy)).2
  have hcp:∀I,canL (pickB I (trnL c xs))=pickB I (canL xs):=by
   intro I;rw[canL_map,<-pick_map,<-canL_map,hc]
  have hlc:(canL xs).length=xs.length:=by rw[canL_map,List.length_map]
  rw[okT_iff,trnT];by_cases h4:k=4
  ·subst h4
   rw[if_neg (by decide),if_pos rfl];rcases h0 with⟨_,h,_⟩|⟨rfl,rfl,⟨_,rfl⟩|h|h⟩
   ·omega
   ·refine⟨?_,own_ok.2 (.inr ⟨rfl,rfl,.inl ⟨rfl,rfl⟩⟩),hk,fun h=> ?_⟩
    ·rw[canT,canT,if_neg (by decide),if_neg (by decide),if_neg (by decide),if_neg (by decide),hc]
    ·exact absurd (show(4:Int)=6 from h) (by decide)
   ·omega
   ·omega
  ·rw[if_neg h4]
   have hpm:(pickB (turnI xs.length c) (trnL c xs)).Perm (trnL c xs):=by
    have:=pick_perm c (trnL c xs);rwa[hlt]at this
   have hkp:∀x∈pickB (turnI xs.length c) (trnL c xs),OkT x:=fun x hx=>hk x (hpm.mem_iff.1 hx)
   have hcm:(pickB (turnI xs.length c) (canL xs)).Perm (canL xs):=by
    have:=pick_perm c (canL xs);rwa[hlc]at this
   rcases h0 with⟨h1,h2,h3,rfl,rfl⟩|⟨rfl,rfl,⟨h,_⟩|⟨rfl,h5,h6⟩|⟨rfl,rfl⟩⟩
   ·rw[if_neg (by omega)]
    have e:pickB (turnI ([]:List Tr).length c) (trnL c [])=[]:=by rw[trnL];rfl
    rw[e];exact⟨rfl,own_ok.2 (.inl ⟨h1,h2,h3,rfl,rfl⟩),fun x hx=>absurd hx List.not_mem_nil,fun h=>absurd (show k=6 from h) (by omega)⟩
   ·exact absurd h h4
   ·rw[if_pos rfl]
    have hn:=pairs_nodup (l:=canL xs) (by omega) h6;have hz:((pickB (turnI xs.length c) ks).zip (pickB (turnI xs.length c) (canL xs))).Perm (ks.zip (canL xs)):=by
     rw[pick_zip (by omega)];have:=pick_perm c (ks.zip (canL xs));rwa[List.length_zip,show min ks.length (canL xs).length=xs.length by omega]at this
    have hkm:(pickB (turnI xs.length c) ks).Perm ks:=by
     have:=pick_perm c ks;rwa[h5]at this
    refine⟨?_,own_ok.2 (.inr ⟨rfl,rfl,.inr (.inl ⟨rfl,?_,?_⟩)⟩),hkp,fun h=>absurd (show(5:Int)=6 from h) (by decide)⟩
    ·rw[canT,canT,if_pos rfl,if_pos rfl,hcp,srt_ext ((hz.map kbF).nodup_iff.2 hn) hz]
    ·show(pickB (turnI xs.length c) ks).length=(pickB (turnI xs.length c) (trnL c xs)).length
     rw[hkm.length_eq,hpm.length_eq,hlt,h5]
    ·exact hkm.nodup_iff.2 h6
   ·rw[if_neg (by decide)]
    have hn:((canL xs).map keyT).Nodup:=by
     rw[canL_map];exact ho1.2.2 rfl
    refine⟨?_,own_ok.2 (.inr ⟨rfl,rfl,.inr (.inr ⟨rfl,rfl⟩)⟩),hkp,fun _=> ?_⟩
    ·rw[canT,canT,if_neg (by decide),if_pos rfl,if_neg (by decide),if_pos rfl,hcp,srt_ext ((hcm.map keyT).nodup_iff.2 hn) hcm]
    ·show(((pickB (turnI xs.length c) (trnL c xs)).map canT).map keyT).Nodup
     rw[<-canL_map,hcp];exact(hcm.map keyT).nodup_iff.2 hn
theorem trn_size (c:Nat) (a:Tr) (h:OkT a):nodT (trnT c a)=nodT a/\depT (trnT c a)=depT a:=by
 obtain⟨h1,h2⟩:=can_trn c a h;have h3:=can_size _ h2;have h4:=can_size _ h;rw[h1]at h3;exact⟨h3.1.symm.trans h4.1,h3.2.symm.trans h4.2⟩
theorem chk_trn (c:Nat) {a:Tr} (h:chkT a=0):chkT (trnT c a)=0:=by
 rw[chkT_ok]at h ⊢;have:=trn_size c a h.1;rw[this.1,this.2];exact⟨(can_trn c a h.1).2,h.2⟩
theorem chk_can {a:Tr} (h:chkT a=0) (hr:RngT a):chkT (canT a)=0:=by
 rw[chkT_ok]at h ⊢;have:=can_size a h.1;rw[this.1,this.2];exact⟨good_ok _ (can_good a h.1 hr),h.2⟩
theorem can_can {a:Tr} (h:chkT a=0) (hr:RngT a):canT (canT a)=canT a:=can_id _ (can_good a (chkT_ok.1 h).1 hr)
def fitT (k sk:Int):Int:=if sk=0 then(if k=4 then 0 else 3)else if sk=1 then(if k=5 then 0 else 3)else if sk=2 then(if k=6 then 0 else 3)else 1
def atT (a:Tr) (i:Int) (t:ByteArray):Option Nat:=
 if a.k=4 then(if 0<=i/\i<a.xs.length then some i.toNat else none)
 else if a.k=5 then a.ks.findIdx? (fun y=>decide (y=t))
 else a.xs.findIdx? (fun y=>decide (keyT y=kb t))
def getT (a:Tr) (sk i:Int) (t:ByteArray):Tr×Int:=
 if fitT a.k sk≠0 then(nullT,fitT a.k sk)else match atT a i t with
  |none=>(nullT,5)
  |some j=>((a.xs[j]?).getD nullT,0)
theorem at_lt {a:Tr} (h:Good a) {i:Int} {t:ByteArray} {j:Nat} (e:atT a i t=some j):j<a.xs.length:=by
 unfold atT at e;split at e
 ·split at e
  ·cases e;omega
  ·cases e
 ·split at e
  ·rename_i h5
   have h1:=(List.findIdx?_eq_some_iff_getElem.1 e).1;rcases(good_iff.1 h).2 with h|⟨_,_,h|h|h⟩
   ·omega
   ·omega
   ·rw[<-h.2.1];exact h1
   ·omega
  ·exact(List.findIdx?_eq_some_iff_getElem.1 e).1
def stepsT (a:Tr):List (Int×Int×ByteArray):=
 if a.k=4 then(List.range a.xs.length).map fun(i:Nat)=>((0:Int),(i:Int),(⟨#[]⟩:ByteArray))
 else if a.k=5 then a.ks.map fun y=>(1,0,y)
 else a.xs.map fun x=>(2,0,⟨(keyT x).toArray⟩)
theorem steps_len {a:Tr} (h:Good a):(stepsT a).length=a.xs.length:=by
 unfold stepsT;split
 ·simp
 ·split
  ·rename_i h5
   rw[List.length_map];rcases(good_iff.1 h).2 with h|⟨_,_,h|h|h⟩
   ·omega
   ·omega
   ·exact h.2.1
   ·omega
  ·rw[List.length_map]
end Go.Proofs.YtengibnpebfblaaGreatDoor
