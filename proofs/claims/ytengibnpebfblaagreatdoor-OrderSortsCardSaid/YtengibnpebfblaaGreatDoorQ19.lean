import Derived.Test.YtengibnpebfblaaGreatDoorQ0
import Derived.Test.YtengibnpebfblaaGreatDoorQ12
set_option maxRecDepth 1000000
set_option maxHeartbeats 8000000
set_option linter.unusedSimpArgs false
namespace Go.Proofs.YtengibnpebfblaaGreatDoor
open Go.RowKit Go.Shelf
def aCg {α:Type} (P:Program) (gf:Nat) (lb:Array Value) (encs:α->Array Value) (RK IK:Nat->World->World->Prop) (S Pr:List α->Prop) (w0:World):Prop:=
 ∀(l:Nat) (J:List α->World->Prop) (W:World),Below w0.heap.size w0 W->(∀s A B,J s A->IK W.heap.size A B->J s B)->
  (∀m pre x V,J pre V->W.heap.size<=V.heap.size->Pr (pre++[x])->YieldAt Fence.wide m P l (encs x) V fun e V'=>e=.returned (.bool true)/\J (pre++[x]) V'/\RK W.heap.size V V')->
  J [] W->∀m,CallsIn Fence.wide m P gf (#[.func (.yield l) #[] #[]]++lb) W fun e W'=>(∃v,e=.returned v)/\∃ys,S ys/\J ys W'
theorem aIb.n {α:Type} {P:Program} {gf:Nat} {lb:Array Value} {encs:α->Array Value} {RK IK:Nat->World->World->Prop} {S Sp Pr:List α->Prop} {w0:World} (h:aIb P gf lb encs RK IK S Sp Pr w0):aCg P gf lb encs RK IK S Pr w0:=fun l J W hW hA hY h0 m=>
 (h l J (fun _ _=>False) W hW hA (fun m pre x V a b c=>(hY m pre x V a b c).mono fun _ _ h=>.inl h) h0 m).mono fun _ _ ⟨h1,h2⟩=>⟨h1,h2.elim id fun⟨_,_,h⟩=>h.elim⟩
theorem kJ {α:Type} {RK IK:Nat->World->World->Prop} {P:Program} {n n₀:Nat} {g:Operand} {ps:Array Tmp} {assign body:Code} {Q:Exit->Act->World->Prop} {a:Act} {w:World} (hn₀:n₀<=w.heap.size) (hok:aIa RK IK n₀)
  {gf:Nat} {lb:Array Value} (hg:a.eval g=.func (.func gf) #[] lb) (eg:∀args w,(callFunc gf args).run P w=.ok (.enter gf args) w)
  {encs:α->Array Value} {S:List α->Prop} {Pr:List α->Prop} (hseq:aCg P gf lb encs RK IK S Pr w) (hps:∀x,(encs x).size=ps.size)
  (I:List α->World->Prop) (hI:OwnFrom w.heap.size I)
  (hIS:∀s A B,I s A->IK (w.heap.size+2) A B->I s B) (hIb:∀pre A B,I pre A->Below A.heap.size A B->I pre B) (h0:I [] w) (St:α->Nat->World->Prop) (hSt:∀x b (A:World) l o o',A.heap[l]? =some o->o.isCells=false->St x b A->St x b (A.putObj l o')) (hnew:∀{Y:Nat} {A B:World},Below A.heap.size A B->n₀<=A.heap.size->RK Y A B) (a₁:α->Nat->Act)
  (hassign:∀(l:Nat) (x:α) (W:World) (K:Act->World->Prop),(∀b W',Below W.heap.size W W'->St x b W'->K (a₁ x b) W')->
   assign.wpIn (Fence.wide.inRound l) n P (Exit.then K (fun _ _ _=>False)) {tmps:=(ps.zip (encs x)).foldl (fun t (p,v)=>t.setIfInBounds p v) a.tmps,defers:=[]} W)
  (hbody:∀(l:Nat) (pre:List α) (x:α) (b:Nat) (W:World),w.heap.size+2<=W.heap.size->I pre W->St x b W->Pr (pre++[x])->body.wpIn (Fence.wide.inRound l) n P (ownPostG w.heap.size (RK (w.heap.size+2)) I (fun _ _ _=>False) (pre++[x]) W) (a₁ x b) W)
  (hdone:∀(xs:List α) (W:World),S xs->I xs W->W.heap[w.heap.size]? =some (.deferred (some []))->Q .normal {a with defers:={target:=.collected w.heap.size,args:=#[]}::a.defers} W):
  (Code.rangeFunc g ps assign body).wpIn Fence.wide n P Q a w:=by
 refine wpIn_rangeFunc fun fn hfn=> ?_
 rw[show Fence.wide.round=none from rfl];obtain⟨rec,hrec⟩:∃rec:LoopState->Option Code->Loop,rec=fun st pe=>{state:=st,pending:=pe,fn,tmps:=a.tmps,params:=ps,assign,body,defers:=w.heap.size}:=⟨_,rfl⟩
 obtain⟨V0,hV0⟩:∃V0,V0=(w.alloc (.deferred (some []))).alloc (.loop (rec .ready none)):=⟨_,rfl⟩
 have hsz:V0.heap.size=w.heap.size+2:=by rw[hV0];simp
 have hrow:V0.heap[w.heap.size+1]? =some (.loop (rec .ready none)):=by
  have h:=World.alloc_heap_new (w.alloc (.deferred (some []))) (.loop (rec .ready none));rwa[World.size_alloc,<-hV0]at h
 have hdef:V0.heap[w.heap.size]? =some (.deferred (some [])):=by
  rw[hV0];exact(Below.heap_alloc _ _ _ uBu).trans (World.alloc_heap_new w _)
 have hbl:Below w.heap.size w V0:=by rw[hV0];exact Below.more (Below.newly' _ _) _
 have hI0:I [] V0:=by rw[hV0];exact hI.alloc _ (hI.alloc _ h0)
 obtain⟨bk,hbk⟩:∃bk:Loop->World->Prop,bk=fun r V=>V.heap[w.heap.size+1]? =some (.loop r)/\V.heap[w.heap.size]? =some (.deferred (some [])):=⟨_,rfl⟩
 have bk_block:∀{r:Loop} {A B:World},bk r A->B.heap[w.heap.size+1]? =A.heap[w.heap.size+1]? ->B.heap[w.heap.size]? =A.heap[w.heap.size]? ->bk r B:=fun h h1 h2=>by
  rw[hbk]at h ⊢;exact⟨h1.trans h.1,h2.trans h.2⟩
 have bk_lt:∀{r:Loop} {A:World},bk r A->w.heap.size+1<A.heap.size:=fun h=>by
  rw[hbk]at h;exact(gZ h.1)
 have bk_put:∀{r r':Loop} {A:World},bk r A->bk r' (A.putObj (w.heap.size+1) (.loop r')):=fun h=>by
  have hlt:=bk_lt h;rw[hbk]at h ⊢;exact⟨World.putObj_heap_same hlt,(cF uAu).trans h.2⟩
 have bk_keep:∀{r:Loop} {A B:World},bk r A->KeepsFrom w.heap.size A B->bk r B:=fun h k=>by
  rw[hbk]at h ⊢;exact⟨k.same _ _ uAu h.1 rfl,k.same _ _ (aE _) h.2 rfl⟩
 have hrun:CallsIn Fence.wide (n-1) P gf (#[.func (.yield (w.heap.size+1)) #[] #[]]++lb) V0
   (rangePost Fence.wide n P (w.heap.size+1) Q {a with defers:=[{target:=.collected w.heap.size,args:=#[]}]++a.defers}):=by
  refine(hseq (w.heap.size+1) (fun pre V=>I pre V/\bk (rec .ready none) V) V0 hbl
   (fun s A B h hb=>by
    rw[hsz]at hb;have hlt:=bk_lt h.2;exact⟨hIS s A B h.1 hb,bk_block h.2 (hok.low hb uAu hlt) (hok.low hb uAu uAu)⟩)
   ?_ ⟨hI0,by rw[hbk];exact⟨hrow,hdef⟩⟩ (n-1)).mono ?_
  ·rintro m pre x V ⟨hi,hb⟩ hV hlen
   rw[hsz]at hV ⊢;have hb1:=hb;rw[hbk]at hb1;have hy:=run_yield (P:=P) (args:=encs x) hb1.1 (by rw[hrec];exact hps x);have hround:YieldAt Fence.wide n P (w.heap.size+1) (encs x) V fun e V'=>
     e=.returned (.bool true)/\(I (pre++[x]) V'/\bk (rec .ready none) V')/\RK (w.heap.size+2) V V':=by
    rw[hrec]at hy;refine⟨fn,_,assign,body,hy,roundIn_of_wpIn hfn (hassign _ x V _ fun b W' hbW hst=> ?_)⟩;have hlt0:=bk_lt hb;have hbW':bk (rec .ready none) W':=bk_block hb (hbW.block _ hlt0) (hbW.block _ uAu);have hb1W:=hbW';rw[hbk]at hb1W;refine⟨_,run_beginRound hb1W.1 (by rw[hrec]),?_⟩;obtain⟨Vb,hVb⟩:∃Vb,Vb=W'.putObj (w.heap.size+1) (.loop {rec .ready none with state:=.busy}):=⟨_,rfl⟩
    have hks:RK (w.heap.size+2) V Vb:=by rw[hVb];exact hok.trans (hnew hbW uAu) (hok.put hb1W.1 rfl uAu uAu)
    have hbb:bk {rec .ready none with state:=.busy} Vb:=by rw[hVb];exact bk_put hbW'
    have hib:I pre Vb:=by rw[hVb];exact hI.putObj _ (hIb _ _ _ hi hbW) uAu hb1W.1 rfl
    have hstb:St x b Vb:=by rw[hVb];exact hSt _ _ _ _ _ _ hb1W.1 rfl hst
    have hszW:=hbW.size;rw[<-hVb];refine wpIn_mono (hbody _ pre x b Vb (by rw[hVb];simp;omega) hib hstb hlen) ?_;have fin:∀(jump:Option Code) (V3:World),KeepsFrom w.heap.size Vb V3->
      (Instr.endRound (w.heap.size+1) jump).run P V3=.ok (.bool jump.isNone) (V3.putObj (w.heap.size+1) (.loop (rec (if jump.isNone then .ready else .done) jump)))/\bk {rec .ready none with state:=.busy} V3:=fun jump V3 hk=>by
     have h3:=bk_keep hbb hk;have h4:=h3;rw[hbk]at h4;have h5:=run_endRound (P:=P) jump h4.1;rw[hrec]at h5 ⊢;exact⟨h5,by rw[hrec]at h3;exact h3⟩
    rintro e a3 V3 hp;cases e with
    |normal=>
     obtain⟨hk,hkp,hi3⟩:=hp;obtain⟨hr,hb3⟩:=fin none V3 hk;have hb4:=hb3;rw[hbk]at hb4;exact⟨_,_,hr,⟨rfl,⟨hI.putObj _ hi3 uAu hb4.1 rfl,bk_put hb3⟩,hok.trans (hok.trans hks hkp) (hok.put hb4.1 rfl uAu uAu)⟩⟩
    |ret=>exact hp.2.elim
    |exit id=>exact hp.2.elim
    |goto t=>exact hp.2.elim
    |panic ch=>exact hp.elim
    |outgrown=>exact hp.elim
   exact aIh hround
  ·rintro e V2 ⟨⟨v,rfl⟩,xs,hS,hi,hb⟩
   have hb1:=hb;rw[hbk]at hb1;refine⟨none,_,by have h:=run_endLoop (P:=P) hb1.1 (by rw[hrec];simp);rw[hrec]at h;exact h,hdone xs _ hS (hI.putObj _ hi uAu hb1.1 rfl) ((cF uAu).trans hb1.2)⟩
 have henter:(Instr.enterLoop fn a.tmps ps assign body none).run P w=.ok (w.heap.size+1,[{target:=.collected w.heap.size,args:=#[]}]) V0:=by
  rw[hV0,hrec];exact run_enterLoop_outer _ _ _ _ _
 refine⟨w.heap.size+1,[{target:=.collected w.heap.size,args:=#[]}],V0,{target:=.fn (.func gf) lb,args:=#[.func (.yield (w.heap.size+1)) #[] #[]]},V0,gf,#[.func (.yield (w.heap.size+1)) #[] #[]]++lb,V0,?_,?_,?_,?_,?_,?_⟩
 ·exact henter
 ·exact aBn hg _ _
 ·intro f' _;exact trivial
 ·exact aDV eg _ _
 ·intro h;exact absurd h uHz
 ·exact hrun
def TxV (w:World) (v:Value) (l:List ByteArray):Prop:=
 ∃(a:Option Addr) (cap b o:Nat),v=.slice a l.length cap/\(0<l.length->a=some ⟨b,o,none⟩)/\(∀j (h:j<l.length),w.cell? ⟨b,o+j,none⟩=some (.string l[j]))/\l.length<=maxLen
theorem TxV.later {w w':World} {v:Value} {l:List ByteArray} (h:TxV w v l) (hb:Below w.heap.size w w'):TxV w' v l:=by
 obtain⟨a,cap,b,o,h1,h2,h3,h4⟩:=h;exact⟨a,cap,b,o,h1,h2,fun j hj=>(hb.cell (aM w _ (h3 j hj))).trans (h3 j hj),h4⟩
abbrev trC (k n:Int) (t:ByteArray) (kv xv:Value):Array Value:=#[.int .i64 k,.int .i64 n,.string t,kv,xv]
mutual
def TrV (w:World):Tr->Value->Prop
 | .nd k n t ks xs,v=>∃kv xv,v=.agg (trC k n t kv xv)/\t.size<=maxLen/\InR k/\InR n/\TxV w kv ks/\∃(a:Option Addr) (cap b o:Nat),xv=.slice a xs.length cap/\(0<xs.length->a=some ⟨b,o,none⟩)/\xs.length<=maxLen/\TrL w xs b o
def TrL (w:World):List Tr->Nat->Nat->Prop
 |[],_,_=>True
 |x::r,b,o=>(∃cs:Array Value,cs.size=5/\w.rangeAt b o cs.toList/\TrV w x (.agg cs))/\TrL w r b (o+5)
end
theorem aDM {w:World}:∀{xs:List Tr} {b o j:Nat} (_:TrL w xs b o) (hj:j<xs.length),∃cs:Array Value,cs.size=5/\w.rangeAt b (o+j*5) cs.toList/\TrV w xs[j] (.agg cs)
 |[],_,_,_,_,hj=>by simp at hj
 |x::r,b,o,0,h,_=>by rw[TrL]at h;simpa using h.1
 |x::r,b,o,j+1,h,hj=>by
  rw[TrL]at h;have:=aDM (j:=j) h.2 uDx;rw[show o+(j+1)*5=o+5+j*5 by omega];simpa using this
theorem zU {w:World}:∀{xs:List Tr} {b o:Nat},(∀j (hj:j<xs.length),∃cs:Array Value,cs.size=5/\w.rangeAt b (o+j*5) cs.toList/\TrV w xs[j] (.agg cs))->TrL w xs b o
 |[],_,_,_=>by rw[TrL];trivial
 |x::r,b,o,h=>by
  rw[TrL];refine⟨?_,zU fun j hj=> ?_⟩
  ·obtain⟨cs,h1,h2,h3⟩:=h 0 uBu
   exact⟨cs,h1,by simpa using h2,h3⟩
  have:=h (j+1) uDx;rw[show o+(j+1)*5=o+5+j*5 by omega]at this;simpa using this
theorem aIs {w w':World} (hb:Below w.heap.size w w') (a:Tr):∀v,TrV w a v->TrV w' a v:=by
 induction a using fS with
 |h k n t ks xs ih=>
  intro v hv;rw[TrV]at hv ⊢;obtain⟨kv,xv,h1,h2,h3,h4,h5,a,cap,b,o,h6,h7,h8,h9⟩:=hv;refine⟨kv,xv,h1,h2,h3,h4,h5.later hb,a,cap,b,o,h6,h7,h8,zU fun j hj=> ?_⟩;obtain⟨cs,c1,c2,c3⟩:=aDM h9 hj;exact⟨cs,c1,fun i v hv=>(hb.cell (aM w _ (c2 i v hv))).trans (c2 i v hv),ih _ (aO hj) _ c3⟩
theorem TrV.later {w w':World} {a:Tr} {v:Value} (h:TrV w a v) (hb:Below w.heap.size w w'):TrV w' a v:=aIs hb a v h
theorem TrV.open' {w:World} {k n:Int} {t:ByteArray} {ks:List ByteArray} {xs:List Tr} {v:Value} (h:TrV w (.nd k n t ks xs) v):
  ∃kv xv,v=.agg (trC k n t kv xv)/\t.size<=maxLen/\InR k/\InR n/\TxV w kv ks/\∃(a:Option Addr) (cap b o:Nat),xv=.slice a xs.length cap/\(0<xs.length->a=some ⟨b,o,none⟩)/\xs.length<=maxLen/\∀j (hj:j<xs.length),∃cs:Array Value,cs.size=5/\w.rangeAt b (o+j*5) cs.toList/\TrV w xs[j] (.agg cs):=by
 rw[TrV]at h;obtain⟨kv,xv,h1,h2,h3,h4,h5,a,cap,b,o,h6,h7,h8,h9⟩:=h;exact⟨kv,xv,h1,h2,h3,h4,h5,a,cap,b,o,h6,h7,h8,fun j hj=>aDM h9 hj⟩
section
variable {β : Type} (f : β → List UInt8)
def tI (l:List β) (x:β):List β:=l.takeWhile (fun y=>decide (f y<f x))++x::l.dropWhile (fun y=>decide (f y<f x))
def lJ (l:List β):List β:=l.foldl (tI f) []
def qR (l:List β):Prop:=l.Pairwise fun a b=>f a<f b
variable {f}
theorem zY (l:List β) (x:β):(tI f l x).Perm (x::l):=by
 unfold tI;refine mC.trans ?_;rw[rS]
theorem aIR {l:List β} {x:β} (h:qR f l) (hx:∀y∈l,f y≠f x):qR f (tI f l x):=by
 induction l with
 |nil=>unfold qR tI;simp
 |cons a l ih=>
  unfold qR at h ih ⊢;rw[cR]at h;unfold tI at ih ⊢;by_cases hp:f a<f x
  ·rw[eX,vF,if_pos uSu,if_pos uSu,bC,cR]
   refine⟨fun b hb=> ?_,ih h.2 (fun y hy=>hx y (aU _ hy))⟩;have:=(zY (f:=f) l x).mem_iff.1 hb;rcases bA.1 this with rfl|hb
   ·exact hp
   ·exact h.1 b hb
  ·rw[eX,vF,if_neg uSu,if_neg uSu,bD,cR,cR]
   have hlt:f x<f a:=by
    rcases aDN (f x) (f a) (fun e=>hx a (aW ..) e.symm)with h|h
    ·exact h
    ·exact absurd h hp
   refine⟨fun b hb=> ?_,h⟩;rcases bA.1 hb with rfl|hb
   ·exact hlt
   ·exact iG hlt (h.1 b hb)
theorem sF (l:List β):∀acc:List β,(l.foldl (tI f) acc).Perm (acc++l):=by
 induction l with
 |nil=>intro acc;simp
 |cons x l ih=>
  intro acc;rw[gN];refine(ih _).trans ?_;refine((zY acc x).append_right l).trans ?_;rw[bC];exact mC.symm
theorem jG (l:List β):(lJ f l).Perm l:=by
 have h:=sF (f:=f) l [];rw[bD]at h;exact h
theorem aJp (l:List β):∀acc:List β,qR f acc->((acc++l).map f).Nodup->qR f (l.foldl (tI f) acc):=by
 induction l with
 |nil=>intro acc h _;exact h
 |cons x l ih=>
  intro acc h hn;rw[gN];refine ih _ (aIR h fun y hy e=> ?_) ?_
  ·rw[bQ,cG,List.nodup_append]at hn
   exact hn.2.2 (f y) (aEH hy) (f x) (aW ..) e
  ·refine(List.Perm.nodup_iff (List.Perm.map f ?_)).2 hn
   refine((zY acc x).append_right l).trans ?_;rw[bC];exact mC.symm
theorem rW {l:List β} (h:(l.map f).Nodup):qR f (lJ f l):=aJp l [] List.Pairwise.nil uDw
theorem qR.nodup {l:List β} (h:qR f l):(l.map f).Nodup:=by
 unfold List.Nodup;rw[iK];exact nP (fun {a b} (hab:f a<f b) (e:f a=f b)=>gB (f b) (by rwa[e]at hab)) h
theorem aCU {l m:List β} (hl:qR f l) (hm:qR f m) (h:l.Perm m):l=m:=
 List.Perm.eq_of_pairwise (le:=fun a b=>f a<f b) (fun _ _ _ _ hab hba=>absurd (iG hab hba) (gB _)) hl hm h
theorem aKb {l:List β} (h:qR f l):lJ f l=l:=aCU (rW h.nodup) h (jG l)
theorem aHw {l m:List β} (h:(l.map f).Nodup) (hp:l.Perm m):lJ f l=lJ f m:=
 aCU (rW h) (rW ((hp.map f).nodup_iff.1 h)) (((jG l).trans hp).trans (jG m).symm)
end
abbrev kbF (p:ByteArray×Tr):List UInt8:=kb p.1
mutual
def cU:Tr->Tr
 | .nd k n t ks xs=>
  if k=5 then .nd k n t ((lJ kbF (ks.zip (cV xs))).map (·.1)) ((lJ kbF (ks.zip (cV xs))).map (·.2))
  else if k=6 then .nd k n t [] (lJ dG (cV xs))
  else .nd k n t [] (cV xs)
def cV:List Tr->List Tr
 |[]=>[]
 |x::r=>cU x::cV r
end
theorem fJ (l:List Tr):cV l=l.map cU:=by
 induction l with
 |nil=>rw[cV];rfl
 |cons x l ih=>rw[cV,ih];rfl
def nQ (a:Tr):Int:=
 if a.k<0\/6<a.k then 3
 else if a.k<=3 then(if a.ks≠[]\/a.xs.length≠0 then 1 else fH (a.k,a.n,kb a.t))
 else if a.n≠0\/a.t≠⟨#[]⟩then 1
 else if(a.k=5/\a.ks.length≠a.xs.length)\/(a.k≠5/\a.ks≠[])then 1
 else if¬a.ks.Nodup then 6 else 0
mutual
def gU:Tr->Nat->Nat->Nat×Int
 | .nd k n t ks xs,d,m=>
  if 64<d then(m+1,7)else if 16384<m+1 then(m+1,8)
  else if nQ (.nd k n t ks xs)≠0 then(m+1,nQ (.nd k n t ks xs))
  else if(gG xs (d+1) (m+1)).2≠0 then gG xs (d+1) (m+1)
  else if k=6/\¬((cV xs).map dG).Nodup then((gG xs (d+1) (m+1)).1,6)
  else((gG xs (d+1) (m+1)).1,0)
def gG:List Tr->Nat->Nat->Nat×Int
 |[],_,m=>(m,0)
 |x::r,d,m=>if(gU x d m).2≠0 then gU x d m else gG r d (gU x d m).1
end
def oX (a:Tr):Int:=(gU a 1 0).2
mutual
def OkT:Tr->Prop
 | .nd k n t ks xs=>nQ (.nd k n t ks xs)=0/\OkL xs/\(k=6->((cV xs).map dG).Nodup)
def OkL:List Tr->Prop
 |[]=>True
 |x::r=>OkT x/\OkL r
end
theorem aMH {l:List Tr}:OkL l↔∀x∈l,OkT x:=by
 induction l with
 |nil=>simp[OkL]
 |cons x l ih=>rw[OkL,ih];simp
theorem yU (a:Tr):∀d m,((gU a d m).2=0↔OkT a/\iX a+d<=65/\m+fU a<=16384)/\((gU a d m).2=0->(gU a d m).1=m+fU a):=by
 induction a using fS with
 |h k n t ks xs ih=>
  intro d m;have hL:∀(l:List Tr),(∀x∈l,∀d m,((gU x d m).2=0↔OkT x/\iX x+d<=65/\m+fU x<=16384)/\((gU x d m).2=0->(gU x d m).1=m+fU x))->∀d m,d<=65->m<=16384->
    ((gG l d m).2=0↔OkL l/\jY l+d<=65/\m+eO l<=16384)/\((gG l d m).2=0->(gG l d m).1=m+eO l):=by
   intro l;induction l with
   |nil=>intro _ d m hd hm;rw[gG,OkL,jY,eO];simp;omega
   |cons x r ih2=>
    intro hi d m hd hm;obtain⟨h1,h2⟩:=hi x (aW ..) d m;rw[gG,OkL,jY,eO];by_cases hz:(gU x d m).2=0
    ·rw[if_neg (by simpa using hz),h2 hz]
     obtain⟨o1,o2,o3⟩:=h1.1 hz;obtain⟨h3,h4⟩:=ih2 (fun y hy=>hi y (aU _ hy)) d (m+fU x) hd uAu;rw[h3];refine⟨⟨fun⟨a,b,c⟩=>⟨⟨o1,a⟩,by omega,by omega⟩,fun⟨⟨_,a⟩,b,c⟩=>⟨a,by omega,by omega⟩⟩,fun h=> ?_⟩;rw[h4 (h3.2 h)];omega
    ·rw[if_pos (by simpa using hz)]
     refine⟨⟨fun h=>absurd h hz,fun⟨⟨a,_⟩,b,c⟩=>absurd (h1.2 ⟨a,by omega,by omega⟩) hz⟩,fun h=>absurd h hz⟩
  rw[gU,OkT,iX,fU];by_cases h1:64<d
  ·rw[if_pos h1]
   simp;omega
  rw[if_neg h1];by_cases h2:16384<m+1
  ·rw[if_pos h2]
   simp;omega
  rw[if_neg h2];by_cases h3:nQ (.nd k n t ks xs)=0
  case neg=>
   rw[if_pos uRx];simp[h3]
  rw[if_neg uRx];obtain⟨h4,h5⟩:=hL xs ih (d+1) (m+1) uAu uAu;by_cases h6:(gG xs (d+1) (m+1)).2=0
  ·rw[if_neg (by simpa using h6)]
   obtain⟨o1,o2,o3⟩:=h4.1 h6;by_cases h7:k=6/\¬((cV xs).map dG).Nodup
   ·rw[if_pos h7]
    simp;intro _ _ h8;exact absurd (h8 h7.1) h7.2
   ·rw[if_neg h7,h5 h6]
    refine⟨⟨fun _=>⟨⟨h3,o1,fun hk=> ?_⟩,by omega,by omega⟩,fun _=>rfl⟩,fun _=>by omega⟩;exact fE fun hn=>h7 ⟨hk,hn⟩
  ·rw[if_pos (by simpa using h6)]
   refine⟨⟨fun h=>absurd h h6,fun⟨⟨_,a,_⟩,b,c⟩=>absurd (h4.2 ⟨a,by omega,by omega⟩) h6⟩,fun h=>absurd h h6⟩
theorem mN {a:Tr}:oX a=0↔OkT a/\iX a<=64/\fU a<=16384:=by
 unfold oX;rw[(yU a 1 0).1];constructor
 ·rintro⟨h1,h2,h3⟩;exact⟨h1,by omega,by omega⟩
 ·rintro⟨h1,h2,h3⟩;exact⟨h1,by omega,by omega⟩
mutual
def pE:Tr->Prop
 | .nd _ n _ _ xs=>InR n/\zO xs
def zO:List Tr->Prop
 |[]=>True
 |x::r=>pE x/\zO r
end
theorem aKn {l:List Tr}:zO l↔∀x∈l,pE x:=by
 induction l with
 |nil=>simp[zO]
 |cons x l ih=>rw[zO,ih];simp
theorem rC {a:Tr}:OkT a↔nQ a=0/\(∀x∈a.xs,OkT x)/\(a.k=6->((a.xs.map cU).map dG).Nodup):=by
 cases a with
 |nd k n t ks xs=>rw[OkT,aMH,fJ];rfl
theorem nE {a:Tr}:pE a↔InR a.n/\∀x∈a.xs,pE x:=by
 cases a with
 |nd k n t ks xs=>rw[pE,aKn];rfl
theorem mF {a:Tr}:nQ a=0↔(0<=a.k/\a.k<=3/\fH (a.k,a.n,kb a.t)=0/\a.ks=[]/\a.xs=[])\/(a.n=0/\a.t=⟨#[]⟩/\((a.k=4/\a.ks=[])\/(a.k=5/\a.ks.length=a.xs.length/\a.ks.Nodup)\/(a.k=6/\a.ks=[]))):=by
 unfold nQ;by_cases h1:a.k<0\/6<a.k
 ·rw[if_pos h1]
  constructor
  ·intro h;cases h
  ·rintro(⟨h,h2,_⟩|⟨_,_,h|h|h⟩)<;>omega
 rw[if_neg h1];by_cases h2:a.k<=3
 ·rw[if_pos h2]
  by_cases h3:a.ks≠[]\/a.xs.length≠0
  ·rw[if_pos h3]
   constructor
   ·intro h;cases h
   ·rintro(⟨_,_,_,h4,h5⟩|⟨_,_,h|h|h⟩)
    ·rcases h3 with h|h
     ·exact absurd h4 h
     ·rw[h5]at h;exact absurd rfl h
    all_goals omega
  ·rw[if_neg h3]
   constructor
   ·intro h
    exact .inl ⟨by omega,h2,h,fE fun h4=>h3 (.inl h4),aAD.1 (fE fun h4=>h3 (.inr h4))⟩
   ·rintro(⟨_,_,h,_⟩|⟨_,_,h|h|h⟩)
    ·exact h
    all_goals omega
 ·rw[if_neg h2]
  by_cases h3:a.n≠0\/a.t≠⟨#[]⟩
  ·rw[if_pos h3]
   constructor
   ·intro h;cases h
   ·rintro(⟨_,h,_⟩|⟨h4,h5,_⟩)
    ·omega
    ·rcases h3 with h|h
     ·exact absurd h4 h
     ·exact absurd h5 h
  ·rw[if_neg h3]
   have hn:a.n=0:=fE fun h4=>h3 (.inl h4)
   have ht:a.t=⟨#[]⟩:=fE fun h4=>h3 (.inr h4)
   by_cases h5:(a.k=5/\a.ks.length≠a.xs.length)\/(a.k≠5/\a.ks≠[])
   ·rw[if_pos h5]
    constructor
    ·intro h;cases h
    ·rintro(⟨_,h,_⟩|⟨_,_,h|h|h⟩)
     ·omega
     ·rcases h5 with h6|h6
      ·omega
      ·exact absurd h.2 h6.2
     ·rcases h5 with h6|h6
      ·exact absurd h.2.1 h6.2
      ·omega
     ·rcases h5 with h6|h6
      ·omega
      ·exact absurd h.2 h6.2
   ·rw[if_neg h5]
    have hks:a.k≠5->a.ks=[]:=fun hk=>fE fun h6=>h5 (.inr ⟨hk,h6⟩)
    by_cases h6:a.ks.Nodup
    ·rw[if_neg (by simpa using h6)]
     refine⟨fun _=>.inr ⟨hn,ht,?_⟩,fun _=>rfl⟩;have hk:a.k=4\/a.k=5\/a.k=6:=by omega
     rcases hk with hk|hk|hk
     ·exact .inl ⟨hk,hks uAu⟩
     ·exact .inr (.inl ⟨hk,fE fun h7=>h5 (.inl ⟨hk,h7⟩),h6⟩)
     ·exact .inr (.inr ⟨hk,hks uAu⟩)
    ·rw[if_pos h6]
     constructor
     ·intro h;cases h
     ·rintro(⟨_,h,_⟩|⟨_,_,h|h|h⟩)
      ·omega
      ·rw[h.2]at h6;exact absurd wX h6
      ·exact absurd h.2.2 h6
      ·rw[h.2]at h6;exact absurd wX h6
theorem oD {α β:Type}:∀(l:List α) (m:List β),l.length=m.length->(l.zip m).map (·.1)=l
 |[],[],_=>rfl
 |a::l,b::m,h=>by simp only[qA,cG];rw[oD l m uDw]
 |[],_::_,h=>by simp at h
 |_::_,[],h=>by simp at h
theorem aAN {α β:Type}:∀(l:List α) (m:List β),l.length=m.length->(l.zip m).map (·.2)=m
 |[],[],_=>rfl
 |a::l,b::m,h=>by simp only[qA,cG];rw[aAN l m uDw]
 |[],_::_,h=>by simp at h
 |_::_,[],h=>by simp at h
theorem yR {l:List ByteArray}:(l.map kb).Nodup↔l.Nodup:=by
 unfold List.Nodup;rw[iK];constructor
 ·intro h;exact nP (fun {a b} (hab:kb a≠kb b) (e:a=b)=>hab (by rw[e])) h
 ·intro h;exact nP (fun {a b} (hab:a≠b) (e:kb a=kb b)=>hab (uV e)) h
theorem aAn {ks:List ByteArray} {l:List Tr} (hl:ks.length=l.length) (h:ks.Nodup):((ks.zip l).map kbF).Nodup:=by
 have e:(ks.zip l).map kbF=ks.map kb:=by
  have h1:=oD ks l hl
  conv=>rhs;rw[<-h1]
  rw[kC];rfl
 rw[e];exact yR.2 h
theorem aC9 (a:Tr):OkT a->pE a->jR (cU a):=by
 induction a using fS with
 |h k n t ks xs ih=>
  intro ho hr;rw[rC]at ho;rw[nE]at hr;simp only[Tr.k,Tr.n,Tr.t,Tr.ks,Tr.xs]at ho hr;have hp:∀y∈cV xs,jR y:=by
   intro y hy;rw[fJ]at hy;obtain⟨x,hx,rfl⟩:=cH.1 hy;exact ih x hx (ho.2.1 x hx) (hr.2 x hx)
  have hlen:(cV xs).length=xs.length:=by rw[fJ,aH]
  have h0:=mF.1 ho.1;simp only[Tr.k,Tr.n,Tr.t,Tr.ks,Tr.xs]at h0;rw[cU];rw[gO];rcases h0 with⟨h1,h2,h3,rfl,rfl⟩|⟨rfl,rfl,⟨rfl,rfl⟩|⟨rfl,h4,h5⟩|⟨rfl,rfl⟩⟩
  ·rw[if_neg uAu,if_neg uAu]
   refine⟨hp,.inl ⟨h1,h2,h3,hr.1,rfl,?_⟩⟩;show cV []=[]
   rw[cV]
  ·rw[if_neg uAv,if_neg uAv]
   exact⟨hp,.inr ⟨rfl,rfl,.inl ⟨rfl,rfl⟩⟩⟩
  ·rw[if_pos rfl]
   have hn:=aAn (l:=cV xs) uAu h5;refine⟨fun y hy=> ?_,.inr ⟨rfl,rfl,.inr (.inl ⟨rfl,?_,?_⟩)⟩⟩
   ·obtain⟨q,hq,rfl⟩:=cH.1 (show y∈(lJ kbF (ks.zip (cV xs))).map (·.2)from hy)
    have:=(jG (f:=kbF) (ks.zip (cV xs))).mem_iff.1 hq;exact hp _ (uH this).2
   ·show((lJ kbF (ks.zip (cV xs))).map (·.1)).length=((lJ kbF (ks.zip (cV xs))).map (·.2)).length
    rw[aH,aH]
   ·show((lJ kbF (ks.zip (cV xs))).map (·.1)).Pairwise _
    rw[iK];exact rW hn
  ·rw[if_neg uAv,if_pos rfl]
   refine⟨fun y hy=> ?_,.inr ⟨rfl,rfl,.inr (.inr ⟨rfl,rfl,?_⟩)⟩⟩
   ·exact hp y ((jG (f:=dG) (cV xs)).mem_iff.1 hy)
   ·show(lJ dG (cV xs)).Pairwise _
    refine rW ?_;rw[fJ];exact ho.2.2 rfl
theorem aBD {α:Type} {f:α->α}:∀{l:List α},(∀x∈l,f x=x)->l.map f=l
 |[],_=>rfl
 |x::l,h=>by rw[cG,h x (aW ..),aBD fun y hy=>h y (aU _ hy)]
theorem aLH (a:Tr):jR a->cU a=a:=by
 induction a using fS with
 |h k n t ks xs ih=>
  intro hg;rw[gO]at hg;simp only[Tr.k,Tr.n,Tr.t,Tr.ks,Tr.xs]at hg;have hc:cV xs=xs:=by rw[fJ];exact aBD fun x hx=>ih x hx (hg.1 x hx)
  rw[cU,hc];rcases hg.2 with⟨_,h2,_,_,rfl,rfl⟩|⟨rfl,rfl,⟨rfl,rfl⟩|⟨rfl,h4,h5⟩|⟨rfl,rfl,h5⟩⟩
  ·rw[if_neg uAu,if_neg uAu]
  ·rw[if_neg uAv,if_neg uAv]
  ·rw[if_pos rfl]
   have hr:qR kbF (ks.zip xs):=by
    have e:((ks.zip xs).map (·.1)).Pairwise fun a b=>kb a<kb b:=by rw[oD ks xs h4];exact h5
    rw[iK]at e;exact e
   rw[aKb hr,oD ks xs h4,aAN ks xs h4]
  ·rw[if_neg uAv,if_pos rfl,aKb h5]
theorem aHW (a:Tr):jR a->OkT a:=by
 induction a using fS with
 |h k n t ks xs ih=>
  intro hg;have hg0:=hg;rw[gO]at hg;simp only[Tr.k,Tr.n,Tr.t,Tr.ks,Tr.xs]at hg;have hc:xs.map cU=xs:=aBD fun x hx=>aLH x (hg.1 x hx)
  rw[rC];refine⟨mF.2 ?_,fun x hx=>ih x hx (hg.1 x hx),fun hk=> ?_⟩
  ·simp only[Tr.k,Tr.n,Tr.t,Tr.ks,Tr.xs]
   rcases hg.2 with⟨h1,h2,h3,_,h4,h5⟩|⟨h1,h2,h|⟨h3,h4,h5⟩|h⟩
   ·exact .inl ⟨h1,h2,h3,h4,h5⟩
   ·exact .inr ⟨h1,h2,.inl h⟩
   ·refine .inr ⟨h1,h2,.inr (.inl ⟨h3,h4,?_⟩)⟩
    exact nP (fun {a b} (hab:kb a<kb b)=>rD hab) h5
   ·exact .inr ⟨h1,h2,.inr (.inr ⟨h.1,h.2.1⟩)⟩
  ·have hk':k=6:=hk
   show((xs.map cU).map dG).Nodup;rw[hc];rcases hg.2 with⟨_,h2,_⟩|⟨_,_,h|h|h⟩
   ·omega
   ·omega
   ·omega
   ·exact qR.nodup (f:=dG) h.2.2
theorem qM (a:Tr):OkT a->fU (cU a)=fU a/\iX (cU a)=iX a:=by
 induction a using fS with
 |h k n t ks xs ih=>
  intro ho;rw[rC]at ho;simp only[Tr.k,Tr.n,Tr.t,Tr.ks,Tr.xs]at ho;have hlen:(cV xs).length=xs.length:=by rw[fJ,aH]
  have hs:eO (cV xs)=eO xs/\jY (cV xs)=jY xs:=by
   have:=fun x hx=>ih x hx (ho.2.1 x hx)
   clear ih ho hlen;induction xs with
   |nil=>rw[cV];exact⟨rfl,rfl⟩
   |cons x r ih2=>
    have h1:=this x (aW ..);have h2:=ih2 (fun y hy=>this y (aU _ hy));rw[cV,eO,eO,jY,jY];omega
  have h0:=mF.1 ho.1;simp only[Tr.k,Tr.n,Tr.t,Tr.ks,Tr.xs]at h0;rw[cU];split
  ·rename_i hk
   have h4:ks.length=(cV xs).length:=by
    rw[hlen];rcases h0 with⟨_,h,_⟩|⟨_,_,h|h|h⟩
    ·omega
    ·omega
    ·exact h.2.1
    ·omega
   have hp:((lJ kbF (ks.zip (cV xs))).map (·.2)).Perm (cV xs):=by
    have:=(jG (f:=kbF) (ks.zip (cV xs))).map (·.2);rwa[aAN ks _ h4]at this
   exact Aj6
  ·split
   ·have hp:=jG (f:=dG) (cV xs)
    exact Aj6
   ·rw[fU,fU,iX,iX,hs.1,hs.2]
    exact⟨rfl,rfl⟩
end Go.Proofs.YtengibnpebfblaaGreatDoor
namespace Go.Proofs.YtengibnpebfblaaGreatDoor
open Go.RowKit
def oP (n by':Nat):List Nat:=(List.range n).map fun i=>(n-1-i+by') % n
def jP {β:Type} (I:List Nat) (l:List β):List β:=I.filterMap fun i=>l[i]?
theorem aGB (n c:Nat):(oP n c).Perm (List.range n):=by
 unfold oP;rw[List.perm_ext_iff_of_nodup]
 ·intro j
  rw[fL,cH];constructor
  ·rintro⟨i,hi,rfl⟩
   have:=fL.1 hi;exact mP _ uAu
  ·intro hj
   refine⟨(2*n-1+c-j) % n,fL.2 (mP _ uAu),?_⟩;have h1:=Nat.div_add_mod (2*n-1+c-j) n;have h2:=mP (2*n-1+c-j) (show 0<n by omega);obtain⟨q,hq⟩:∃q,q=(2*n-1+c-j)/n:=⟨_,rfl⟩
   obtain⟨i,hi⟩:∃i,i=(2*n-1+c-j) % n:=⟨_,rfl⟩
   rw[<-hq,<-hi]at h1;rw[<-hi]at h2 ⊢;cases q with
   |zero=>exfalso;rw[Nat.mul_zero]at h1;omega
   |succ q=>
    rw[Nat.mul_succ]at h1;have e:n-1-i+c=j+n*q:=by omega
    rw[e,Nat.add_mul_mod_self_left,Nat.mod_eq_of_lt hj]
 ·unfold List.Nodup
  rw[iK];refine List.Pairwise.imp_of_mem (fun {a b} ha hb (hab:a≠b) e=> ?_) (List.nodup_range (n:=n));have ha':=fL.1 ha;have hb':=fL.1 hb;have h1:=Nat.div_add_mod (n-1-a+c) n;have h2:=Nat.div_add_mod (n-1-b+c) n;rw[e]at h1;rcases Nat.lt_trichotomy ((n-1-a+c)/n) ((n-1-b+c)/n)with h|h|h
  ·have:=aEG n h
   rw[Nat.mul_succ]at this;omega
  ·rw[h]at h1;omega
  ·have:=aEG n h
   rw[Nat.mul_succ]at this;omega
 ·exact List.nodup_range
theorem aGS {β:Type} (l:List β):jP (List.range l.length) l=l:=by
 unfold jP;induction l with
 |nil=>rfl
 |cons x l ih=>
  rw[aL,List.range_succ_eq_map,lV,List.filterMap_map];simp only[List.getElem?_cons_zero];congr 1
theorem vJ {β:Type} (c:Nat) (l:List β):(jP (oP l.length c) l).Perm l:=by
 have h:=(aGB l.length c).filterMap fun i=>l[i]?
 have h2:=aGS l;unfold jP at h2 ⊢;rw[h2]at h;exact h
theorem aFl {α β:Type} {l:List α} {m:List β} (h:l.length=m.length):∀I:List Nat,(jP I l).zip (jP I m)=jP I (l.zip m)
 |[]=>rfl
 |i::I=>by
  have ih:=aFl h I;unfold jP at ih ⊢;rw[lV,lV,lV];by_cases hi:i<l.length
  ·rw[List.getElem?_eq_getElem hi,List.getElem?_eq_getElem (show i<m.length by omega),List.getElem?_eq_getElem (show i<(l.zip m).length by rw[dN];omega)]
   simp only[qA,aAF,ih]
  ·rw[List.getElem?_eq_none uAu,List.getElem?_eq_none (show m.length<=i by omega),List.getElem?_eq_none (show(l.zip m).length<=i by rw[dN];omega)]
   exact ih
theorem aKJ {α β:Type} (f:α->β) (I:List Nat) (l:List α):jP I (l.map f)=(jP I l).map f:=by
 unfold jP;rw[aGp];congr 1
 funext i
 rw[List.getElem?_map]
mutual
def xF (c:Nat):Tr->Tr
 | .nd k n t ks xs=>.nd k n t (if k=5 then jP (oP xs.length c) ks else[]) (if k=4 then rO c xs else jP (oP xs.length c) (rO c xs))
def rO (c:Nat):List Tr->List Tr
 |[]=>[]
 |x::r=>xF c x::rO c r
end
theorem yI (c:Nat) (l:List Tr):rO c l=l.map (xF c):=by
 induction l with
 |nil=>rw[rO];rfl
 |cons x l ih=>rw[rO,ih];rfl
theorem aEr (c:Nat) (a:Tr):OkT a->cU (xF c a)=cU a/\OkT (xF c a):=by
 induction a using fS with
 |h k n t ks xs ih=>
  intro ho;have ho1:=rC.1 ho;simp only[Tr.k,Tr.n,Tr.t,Tr.ks,Tr.xs]at ho1;have h0:=mF.1 ho1.1;simp only[Tr.k,Tr.n,Tr.t,Tr.ks,Tr.xs]at h0;have hlt:(rO c xs).length=xs.length:=by rw[yI,aH]
  have hc:cV (rO c xs)=cV xs:=by
   rw[fJ,fJ,yI,kC];exact jX fun x hx=>(ih x hx (ho1.2.1 x hx)).1
  have hk:∀x∈rO c xs,OkT x:=by
   intro x hx;rw[yI]at hx;obtain⟨y,hy,rfl⟩:=cH.1 hx;exact(ih y hy (ho1.2.1 y hy)).2
  have hcp:∀I,cV (jP I (rO c xs))=jP I (cV xs):=by
   intro I;rw[fJ,<-aKJ,<-fJ,hc]
  have hlc:(cV xs).length=xs.length:=by rw[fJ,aH]
  rw[rC,xF];by_cases h4:k=4
  ·subst h4
   rw[if_neg uAv,if_pos rfl];rcases h0 with⟨_,h,_⟩|⟨rfl,rfl,⟨_,rfl⟩|h|h⟩
   ·omega
   ·refine⟨?_,mF.2 (.inr ⟨rfl,rfl,.inl ⟨rfl,rfl⟩⟩),hk,fun h=> ?_⟩
    ·rw[cU,cU,if_neg uAv,if_neg uAv,if_neg uAv,if_neg uAv,hc]
    ·exact absurd (show(4:Int)=6 from h) uAv
   ·omega
   ·omega
  ·rw[if_neg h4]
   have hpm:(jP (oP xs.length c) (rO c xs)).Perm (rO c xs):=by
    have:=vJ c (rO c xs);rwa[hlt]at this
   have hkp:∀x∈jP (oP xs.length c) (rO c xs),OkT x:=fun x hx=>hk x (hpm.mem_iff.1 hx)
   have hcm:(jP (oP xs.length c) (cV xs)).Perm (cV xs):=by
    have:=vJ c (cV xs);rwa[hlc]at this
   rcases h0 with⟨h1,h2,h3,rfl,rfl⟩|⟨rfl,rfl,⟨h,_⟩|⟨rfl,h5,h6⟩|⟨rfl,rfl⟩⟩
   ·rw[if_neg uAu]
    have e:jP (oP ([]:List Tr).length c) (rO c [])=[]:=by rw[rO];rfl
    rw[e];exact⟨rfl,mF.2 (.inl ⟨h1,h2,h3,rfl,rfl⟩),fun x hx=>absurd hx gX,fun h=>absurd (show k=6 from h) uAu⟩
   ·exact absurd h h4
   ·rw[if_pos rfl]
    have hn:=aAn (l:=cV xs) uAu h6;have hz:((jP (oP xs.length c) ks).zip (jP (oP xs.length c) (cV xs))).Perm (ks.zip (cV xs)):=by
     rw[aFl uAu];have:=vJ c (ks.zip (cV xs));rwa[dN,show min ks.length (cV xs).length=xs.length by omega]at this
    have hkm:(jP (oP xs.length c) ks).Perm ks:=by
     have:=vJ c ks;rwa[h5]at this
    refine⟨?_,mF.2 (.inr ⟨rfl,rfl,.inr (.inl ⟨rfl,?_,?_⟩)⟩),hkp,fun h=>absurd (show(5:Int)=6 from h) uAv⟩
    ·rw[cU,cU,if_pos rfl,if_pos rfl,hcp,aHw ((hz.map kbF).nodup_iff.2 hn) hz]
    ·show(jP (oP xs.length c) ks).length=(jP (oP xs.length c) (rO c xs)).length
     rw[hkm.length_eq,hpm.length_eq,hlt,h5]
    ·exact hkm.nodup_iff.2 h6
   ·rw[if_neg uAv]
    have hn:((cV xs).map dG).Nodup:=by
     rw[fJ];exact ho1.2.2 rfl
    refine⟨?_,mF.2 (.inr ⟨rfl,rfl,.inr (.inr ⟨rfl,rfl⟩)⟩),hkp,fun _=> ?_⟩
    ·rw[cU,cU,if_neg uAv,if_pos rfl,if_neg uAv,if_pos rfl,hcp,aHw ((hcm.map dG).nodup_iff.2 hn) hcm]
    ·show(((jP (oP xs.length c) (rO c xs)).map cU).map dG).Nodup
     rw[<-fJ,hcp];exact(hcm.map dG).nodup_iff.2 hn
theorem aEU (c:Nat) (a:Tr) (h:OkT a):fU (xF c a)=fU a/\iX (xF c a)=iX a:=by
 obtain⟨h1,h2⟩:=aEr c a h;have h3:=qM _ h2;have h4:=qM _ h;rw[h1]at h3;exact⟨h3.1.symm.trans h4.1,h3.2.symm.trans h4.2⟩
theorem aN6 (c:Nat) {a:Tr} (h:oX a=0):oX (xF c a)=0:=by
 rw[mN]at h ⊢;have:=aEU c a h.1;rw[this.1,this.2];exact⟨(aEr c a h.1).2,h.2⟩
theorem aN7 {a:Tr} (h:oX a=0) (hr:pE a):oX (cU a)=0:=by
 rw[mN]at h ⊢;have:=qM a h.1;rw[this.1,this.2];exact⟨aHW _ (aC9 a h.1 hr),h.2⟩
theorem aNb {a:Tr} (h:oX a=0) (hr:pE a):cU (cU a)=cU a:=aLH _ (aC9 a (mN.1 h).1 hr)
def xQ (k sk:Int):Int:=if sk=0 then(if k=4 then 0 else 3)else if sk=1 then(if k=5 then 0 else 3)else if sk=2 then(if k=6 then 0 else 3)else 1
def atT (a:Tr) (i:Int) (t:ByteArray):Option Nat:=
 if a.k=4 then(if 0<=i/\i<a.xs.length then some i.toNat else none)
 else if a.k=5 then a.ks.findIdx? (fun y=>decide (y=t))
 else a.xs.findIdx? (fun y=>decide (dG y=kb t))
def aJo (a:Tr) (sk i:Int) (t:ByteArray):Tr×Int:=
 if xQ a.k sk≠0 then(iE,xQ a.k sk)else match atT a i t with
  |none=>(iE,5)
  |some j=>((a.xs[j]?).getD iE,0)
theorem at_lt {a:Tr} (h:jR a) {i:Int} {t:ByteArray} {j:Nat} (e:atT a i t=some j):j<a.xs.length:=by
 unfold atT at e;split at e
 ·split at e
  ·cases e;omega
  ·cases e
 ·split at e
  ·rename_i h5
   have h1:=(List.findIdx?_eq_some_iff_getElem.1 e).1;rcases(gO.1 h).2 with h|⟨_,_,h|h|h⟩
   ·omega
   ·omega
   ·rw[<-h.2.1];exact h1
   ·omega
  ·exact(List.findIdx?_eq_some_iff_getElem.1 e).1
def pA (a:Tr):List (Int×Int×ByteArray):=
 if a.k=4 then(List.range a.xs.length).map fun(i:Nat)=>((0:Int),(i:Int),(⟨#[]⟩:ByteArray))
 else if a.k=5 then a.ks.map fun y=>(1,0,y)
 else a.xs.map fun x=>(2,0,⟨(dG x).toArray⟩)
theorem rV {a:Tr} (h:jR a):(pA a).length=a.xs.length:=by
 unfold pA;split
 ·simp
 ·split
  ·rename_i h5
   rw[aH];rcases(gO.1 h).2 with h|⟨_,_,h|h|h⟩
   ·omega
   ·omega
   ·exact h.2.1
   ·omega
  ·rw[aH]
end Go.Proofs.YtengibnpebfblaaGreatDoor
