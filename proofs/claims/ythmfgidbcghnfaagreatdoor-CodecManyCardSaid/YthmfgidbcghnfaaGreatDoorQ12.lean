import Derived.Test.YthmfgidbcghnfaaGreatDoorQ0
import Derived.Test.YthmfgidbcghnfaaGreatDoorQ11
set_option maxRecDepth 1000000
set_option maxHeartbeats 8000000
set_option linter.unusedSimpArgs false
namespace Go.Proofs.YthmfgidbcghnfaaGreatDoor
open Go.RowKit
theorem aIw {ops:Array Oper} {rest:List Oper} {o:Oper} {a:Act} {Q:Exit->Act->World->Prop} {w:World} (fj:o.guard=none) (l c:Operand) (Pi:o.op=.makeSlice 72 l c)
  {B:Nat} (kl kc:IntKind) (C:Int) (n:Nat) (hl:a.eval l=.int kl 0) (hc:a.eval c=.int kc C) (hC:C=(n:Int)) (hn:n<=10000000) (hB:B<=w.heap.size)
  (h:∀v w',Buf B v [] w'->Below w.heap.size w w'->wpList Tryz.prog ops Q rest (a.put o.dst v) w'):wpList Tryz.prog ops Q (o::rest) a w:=by
 obtain⟨i,hi,hz,h1,h2⟩:=dO aBs;refine wpList_make_own w fj l c 72 Pi B 5 i (.int .u8 0) 1 Tryz.underlying72 hi hz h1 kl kc C n hl hc hC uRx uCx hB fun w' r1 r2=> ?_
 have hb:Below w.heap.size w w':=(bB _ _).grown r2 (aA _) (fun k hk=>by cases hk);exact h _ _ ⟨oP r1,aI hB hb.size⟩ hb
open Go.Shelf
def aDm {α:Type} (P:Program) (gf:Nat) (lb:Array Value) (kf:α->Array Value) (RK IK:Nat->World->World->Prop) (S Pr:List α->Prop) (w0:World):Prop:=
 ∀(l:Nat) (J:List α->World->Prop) (W:World),Below w0.heap.size w0 W->(∀s A B,J s A->IK W.heap.size A B->J s B)->
  (∀m pre x V,J pre V->W.heap.size<=V.heap.size->Pr (pre++[x])->YieldAt Fence.wide m P l (kf x) V fun e V'=>e=.returned (.bool true)/\J (pre++[x]) V'/\RK W.heap.size V V')->
  J [] W->∀m,CallsIn Fence.wide m P gf (#[.func (.yield l) #[] #[]]++lb) W fun e W'=>(∃v,e=.returned v)/\∃ys,S ys/\J ys W'
theorem aLg.n {α:Type} {P:Program} {gf:Nat} {lb:Array Value} {kf:α->Array Value} {RK IK:Nat->World->World->Prop} {S Sp Pr:List α->Prop} {w0:World} (h:aLg P gf lb kf RK IK S Sp Pr w0):aDm P gf lb kf RK IK S Pr w0:=fun l J W hW hA hY h0 m=>
 (h l J (fun _ _=>False) W hW hA (fun m pre x V a b c=>(hY m pre x V a b c).mono fun _ _ h=>.inl h) h0 m).mono fun _ _ ⟨h1,h2⟩=>⟨h1,h2.elim id fun⟨_,_,h⟩=>h.elim⟩
theorem mF {α:Type} {RK IK:Nat->World->World->Prop} {P:Program} {n n₀:Nat} {g:Operand} {ps:Array Tmp} {assign body:Code} {Q:Exit->Act->World->Prop} {a:Act} {w:World} (b8:n₀<=w.heap.size) (qy:aLf RK IK n₀)
  {gf:Nat} {lb:Array Value} (hg:a.eval g=.func (.func gf) #[] lb) (eg:∀args w,(callFunc gf args).run P w=.ok (.enter gf args) w)
  {kf:α->Array Value} {S:List α->Prop} {Pr:List α->Prop} (hseq:aDm P gf lb kf RK IK S Pr w) (Gf:∀x,(kf x).size=ps.size)
  (I:List α->World->Prop) (hI:OwnFrom w.heap.size I)
  (GF:∀s A B,I s A->IK (w.heap.size+2) A B->I s B) (GG:∀pre A B,I pre A->Below A.heap.size A B->I pre B) (h0:I [] w) (St:α->Nat->World->Prop) (GH:∀x b (A:World) l o o',A.heap[l]? =some o->o.isCells=false->St x b A->St x b (A.putObj l o')) (Er:∀{Y:Nat} {A B:World},Below A.heap.size A B->n₀<=A.heap.size->RK Y A B) (P1:α->Nat->Act)
  (Hj:∀(l:Nat) (x:α) (W:World) (K:Act->World->Prop),(∀b W',Below W.heap.size W W'->St x b W'->K (P1 x b) W')->
   assign.wpIn (Fence.wide.inRound l) n P (Exit.then K (fun _ _ _=>False)) {tmps:=(ps.zip (kf x)).foldl (fun t (p,v)=>t.setIfInBounds p v) a.tmps,defers:=[]} W)
  (P2:∀(l:Nat) (pre:List α) (x:α) (b:Nat) (W:World),w.heap.size+2<=W.heap.size->I pre W->St x b W->Pr (pre++[x])->body.wpIn (Fence.wide.inRound l) n P (ownPostG w.heap.size (RK (w.heap.size+2)) I (fun _ _ _=>False) (pre++[x]) W) (P1 x b) W)
  (P3:∀(xs:List α) (W:World),S xs->I xs W->W.heap[w.heap.size]? =some (.deferred (some []))->Q .normal {a with defers:={target:=.collected w.heap.size,args:=#[]}::a.defers} W):
  (Code.rangeFunc g ps assign body).wpIn Fence.wide n P Q a w:=by
 refine wpIn_rangeFunc fun fn hfn=> ?_
 rw[show Fence.wide.round=none from rfl];obtain⟨rec,sc⟩:∃rec:LoopState->Option Code->Loop,rec=fun st pe=>{state:=st,pending:=pe,fn,tmps:=a.tmps,params:=ps,assign,body,defers:=w.heap.size}:=⟨_,rfl⟩
 obtain⟨V0,Bn⟩:∃V0,V0=(w.alloc (.deferred (some []))).alloc (.loop (rec .ready none)):=⟨_,rfl⟩
 have de:V0.heap.size=w.heap.size+2:=by rw[Bn];simp
 have dj:V0.heap[w.heap.size+1]? =some (.loop (rec .ready none)):=by
  have h:=World.alloc_heap_new (w.alloc (.deferred (some []))) (.loop (rec .ready none));rwa[World.size_alloc,<-Bn]at h
 have Wn:V0.heap[w.heap.size]? =some (.deferred (some [])):=by
  rw[Bn];exact(Below.heap_alloc _ _ _ uAy).trans (World.alloc_heap_new w _)
 have bf:Below w.heap.size w V0:=by rw[Bn];exact Below.more (Below.newly' _ _) _
 have GI:I [] V0:=by rw[Bn];exact hI.alloc _ (hI.alloc _ h0)
 obtain⟨bk,jf⟩:∃bk:Loop->World->Prop,bk=fun r V=>V.heap[w.heap.size+1]? =some (.loop r)/\V.heap[w.heap.size]? =some (.deferred (some [])):=⟨_,rfl⟩
 have x8:∀{r:Loop} {A B:World},bk r A->B.heap[w.heap.size+1]? =A.heap[w.heap.size+1]? ->B.heap[w.heap.size]? =A.heap[w.heap.size]? ->bk r B:=fun h h1 h2=>by
  rw[jf]at h ⊢;exact⟨h1.trans h.1,h2.trans h.2⟩
 have Es:∀{r:Loop} {A:World},bk r A->w.heap.size+1<A.heap.size:=fun h=>by
  rw[jf]at h;exact(gZ h.1)
 have Et:∀{r r':Loop} {A:World},bk r A->bk r' (A.putObj (w.heap.size+1) (.loop r')):=fun h=>by
  have hlt:=Es h;rw[jf]at h ⊢;exact⟨World.putObj_heap_same hlt,(cN hO).trans h.2⟩
 have Hk:∀{r:Loop} {A B:World},bk r A->KeepsFrom w.heap.size A B->bk r B:=fun h k=>by
  rw[jf]at h ⊢;exact⟨k.same _ _ hO h.1 rfl,k.same _ _ (aA _) h.2 rfl⟩
 have cr:CallsIn Fence.wide (n-1) P gf (#[.func (.yield (w.heap.size+1)) #[] #[]]++lb) V0
   (rangePost Fence.wide n P (w.heap.size+1) Q {a with defers:=[{target:=.collected w.heap.size,args:=#[]}]++a.defers}):=by
  refine(hseq (w.heap.size+1) (fun pre V=>I pre V/\bk (rec .ready none) V) V0 bf
   (fun s A B h hb=>by
    rw[de]at hb;have hlt:=Es h.2;exact⟨GF s A B h.1 hb,x8 h.2 (qy.low hb hO hlt) (qy.low hb hO hO)⟩)
   ?_ ⟨GI,by rw[jf];exact⟨dj,Wn⟩⟩ (n-1)).mono ?_
  ·rintro m pre x V ⟨hi,hb⟩ hV an
   rw[de]at hV ⊢;have af:=hb;rw[jf]at af;have hy:=run_yield (P:=P) (args:=kf x) af.1 (by rw[sc];exact Gf x);have Lk:YieldAt Fence.wide n P (w.heap.size+1) (kf x) V fun e V'=>
     e=.returned (.bool true)/\(I (pre++[x]) V'/\bk (rec .ready none) V')/\RK (w.heap.size+2) V V':=by
    rw[sc]at hy;refine⟨fn,_,assign,body,hy,roundIn_of_wpIn hfn (Hj _ x V _ fun b W' dy df=> ?_)⟩;have Wp:=Es hb;have P4:bk (rec .ready none) W':=x8 hb (dy.block _ Wp) (dy.block _ hO);have Eu:=P4;rw[jf]at Eu;refine⟨_,run_beginRound Eu.1 (by rw[sc]),?_⟩;obtain⟨Vb,Oc⟩:∃Vb,Vb=W'.putObj (w.heap.size+1) (.loop {rec .ready none with state:=.busy}):=⟨_,rfl⟩
    have gv:RK (w.heap.size+2) V Vb:=by rw[Oc];exact qy.trans (Er dy hO) (qy.put Eu.1 rfl hO hO)
    have kh:bk {rec .ready none with state:=.busy} Vb:=by rw[Oc];exact Et P4
    have Od:I pre Vb:=by rw[Oc];exact hI.putObj _ (GG _ _ _ hi dy) hO Eu.1 rfl
    have Wq:St x b Vb:=by rw[Oc];exact GH _ _ _ _ _ _ Eu.1 rfl df
    have GJ:=dy.size;rw[<-Oc];refine wpIn_mono (P2 _ pre x b Vb (by rw[Oc];simp;omega) Od Wq an) ?_;have GK:∀(jump:Option Code) (V3:World),KeepsFrom w.heap.size Vb V3->
      (Instr.endRound (w.heap.size+1) jump).run P V3=.ok (.bool jump.isNone) (V3.putObj (w.heap.size+1) (.loop (rec (if jump.isNone then .ready else .done) jump)))/\bk {rec .ready none with state:=.busy} V3:=fun jump V3 hk=>by
     have h3:=Hk kh hk;have h4:=h3;rw[jf]at h4;have h5:=run_endRound (P:=P) jump h4.1;rw[sc]at h5 ⊢;exact⟨h5,by rw[sc]at h3;exact h3⟩
    rintro e a3 V3 hp;cases e with
    |normal=>
     obtain⟨hk,ef,P5⟩:=hp;obtain⟨hr,au⟩:=GK none V3 hk;have bh:=au;rw[jf]at bh;exact⟨_,_,hr,⟨rfl,⟨hI.putObj _ P5 hO bh.1 rfl,Et au⟩,qy.trans (qy.trans gv ef) (qy.put bh.1 rfl hO hO)⟩⟩
    |ret=>exact hp.2.elim
    |exit id=>exact hp.2.elim
    |goto t=>exact hp.2.elim
    |panic ch=>exact hp.elim
    |outgrown=>exact hp.elim
   exact aLp Lk
  ·rintro e V2 ⟨⟨v,rfl⟩,xs,hS,hi,hb⟩
   have af:=hb;rw[jf]at af;refine⟨none,_,by have h:=run_endLoop (P:=P) af.1 (by rw[sc];simp);rw[sc]at h;exact h,P3 xs _ hS (hI.putObj _ hi hO af.1 rfl) ((cN hO).trans af.2)⟩
 have Ll:(Instr.enterLoop fn a.tmps ps assign body none).run P w=.ok (w.heap.size+1,[{target:=.collected w.heap.size,args:=#[]}]) V0:=by
  rw[Bn,sc];exact run_enterLoop_outer _ _ _ _ _
 refine⟨w.heap.size+1,[{target:=.collected w.heap.size,args:=#[]}],V0,{target:=.fn (.func gf) lb,args:=#[.func (.yield (w.heap.size+1)) #[] #[]]},V0,gf,#[.func (.yield (w.heap.size+1)) #[] #[]]++lb,V0,?_,?_,?_,?_,?_,?_⟩
 ·exact Ll
 ·exact aC8 hg _ _
 ·intro f' _;exact trivial
 ·exact aFB eg _ _
 ·intro h;exact absurd h uIx
 ·exact cr
noncomputable def cv1X (w:World) (a:Addr):Result Value:=(convert 72 9 (.slice (some a) 1 1)).run Tryz.prog w
open Classical in
noncomputable def cv1 (w:World) (a:Addr) (c:Option Value):Result Value:=if∃v,0<=v/\v<256/\c=some (.int .u8 v)then
 match c with
 |some (.int .u8 v)=>.ok (.string ⟨#[bt8 v]⟩) w
 |_=>cv1X w a
 else cv1X w a
theorem aS4 (w:World) (a:Addr):(convert 72 9 (.slice (some a) 1 1)).run Tryz.prog w=cv1 w a (w.cell? a):=by
 unfold cv1;split
 ·rename_i h
  obtain⟨v,h0,h1,hc⟩:=h;rw[hc];have:=rU (P:=Tryz.prog) w 72 9 5 a 1 [bt8 v] Tryz.underlying72 Tryz.underlying5 Tryz.underlying9 (fun j hj=>by
   have Vw:j=0:=by simp at hj;exact hj
   subst Vw;rw[show a.add 0=a from by simp[Addr.add],hc];simp[mU];omega)
  exact this
 ·rfl
theorem aTM (w:World) (a:Addr) (v:Int) (h0:0<=v) (h1:v<256):cv1 w a (some (.int .u8 v))=.ok (.string ⟨#[bt8 v]⟩) w:=by
 unfold cv1;rw[if_pos ⟨v,h0,h1,rfl⟩]
theorem aTS (l r:List UInt8):(⟨l.toArray⟩:ByteArray)++⟨r.toArray⟩=⟨(l++r).toArray⟩:=by
 apply ByteArray.ext;simp[ByteArray.data_append]
theorem aCW {c:UInt8} (h:(c.toNat:Int)=34\/(c.toNat:Int)=92\/(c.toNat:Int)=47):uC c=some c:=if_pos hO
theorem esc_n {c:UInt8} (h:(c.toNat:Int)=110):uC c=some 10:=by unfold uC;rw[if_neg hO,if_pos hO]
theorem esc_t {c:UInt8} (h:(c.toNat:Int)=116):uC c=some 9:=by unfold uC;rw[if_neg hO,if_neg hO,if_pos hO]
theorem esc_r {c:UInt8} (h:(c.toNat:Int)=114):uC c=some 13:=by unfold uC;rw[if_neg hO,if_neg hO,if_neg hO,if_pos hO]
theorem aPr {c:UInt8} (h:¬((c.toNat:Int)=34\/(c.toNat:Int)=92\/(c.toNat:Int)=47)/\¬(c.toNat:Int)=110/\¬(c.toNat:Int)=116/\¬(c.toNat:Int)=114):uC c=none:=by
 unfold uC;exact Al2
def aLh (w:World) (l:List UInt8) (e:Ending) (w':World):Prop:=∃v,e=.returned v/\Buf w.heap.size v l w'/\Below w.heap.size w w'
theorem aHs {c:UInt8} (h:(c.toNat:Int)=34\/(c.toNat:Int)=92):kI c=[92,c]:=if_pos hO
theorem aTf {c:UInt8} (h:(c.toNat:Int)=10):kI c=[92,110]:=by unfold kI;rw[if_neg hO,if_pos hO]
theorem one_9 {c:UInt8} (h:(c.toNat:Int)=9):kI c=[92,116]:=by unfold kI;rw[if_neg hO,if_neg hO,if_pos hO]
theorem aTe {c:UInt8} (h:(c.toNat:Int)=13):kI c=[92,114]:=by unfold kI;rw[if_neg hO,if_neg hO,if_neg hO,if_pos hO]
theorem one_x {c:UInt8} (h:¬(c.toNat:Int)=34/\¬(c.toNat:Int)=92/\¬(c.toNat:Int)=10/\¬(c.toNat:Int)=9/\¬(c.toNat:Int)=13/\((c.toNat:Int)<32\/126<(c.toNat:Int))):kI c=[92,120,hxD (c.toNat/16),hxD (c.toNat % 16)]:=by
 unfold kI;rw[if_neg hO,if_neg hO,if_neg hO,if_neg hO,if_pos hO]
theorem one_c {c:UInt8} (h:¬(c.toNat:Int)=34/\¬(c.toNat:Int)=92/\¬(c.toNat:Int)=10/\¬(c.toNat:Int)=9/\¬(c.toNat:Int)=13/\¬((c.toNat:Int)<32\/126<(c.toNat:Int))):kI c=[c]:=by
 unfold kI;rw[if_neg hO,if_neg hO,if_neg hO,if_neg hO,if_neg hO]
theorem iK (s:ByteArray) (k:Nat) (h:k<s.size):s.data.toList.drop k=s[k]::s.data.toList.drop (k+1):=by
 have h1:k<s.data.toList.length:=by rw[cY];exact h
 exact lW h1
theorem aOo (c:UInt8):1<=(kI c).length/\(kI c).length<=4:=by
 unfold kI
 repeat' split
 all_goals simp
theorem aMH (s:ByteArray) (f:UInt8->List UInt8) (k:Nat) (h:k<s.size):(s.data.toList.take (k+1)).flatMap f=(s.data.toList.take k).flatMap f++f s[k]:=by
 rw[aBX s k h,gN];simp
theorem aPn (f:UInt8->List UInt8) (n:Nat) (hf:∀c,(f c).length<=n) (l:List UInt8):(l.flatMap f).length<=n*l.length:=by
 induction l with
 |nil=>simp
 |cons c r ih=>
  have:=hf c;simp only[cC,aB,aD,Nat.mul_succ];omega
def aSy (w:World) (l:List UInt8) (e:Ending) (w':World):Prop:=
 ∃ad c,e=.returned (.slice (some ad) l.length c)/\(∀j u,(bv l)[j]? =some u->w'.cell? (ad.add j)=some u)/\Below w.heap.size w w'
theorem aLh.row {w w':World} {l:List UInt8} {e:Ending} (h:aLh w l e w') (hn:l≠[]):aSy w l e w':=by
 obtain⟨v,rfl,hb,hl⟩:=h;obtain⟨ad,c,rfl,hc⟩:=hb.src hn;exact⟨ad,c,rfl,hc,hl⟩
theorem Below.go {B:Nat} {w w1 w2:World} (h1:Below B w w1) (hB:B<=w1.heap.size) (h2:Below w1.heap.size w1 w2):Below B w w2:=h1.trans (h2.mono hB)
abbrev unqV (x:List UInt8×Nat×Int):Value:=.tuple #[.string ⟨x.1.toArray⟩,.int .i64 (x.2.1:Int),.int .i64 x.2.2]
theorem aIX (s:ByteArray) (k:Nat) (h:k<s.size) (out:List UInt8) (h1:¬(s[k].toNat:Int)=34) (h2:¬(s[k].toNat:Int)<32) (h3:¬(s[k].toNat:Int)=92):
  iV (s.data.toList.drop k) k out=iV (s.data.toList.drop (k+1)) (k+1) (out++[s[k]]):=by
 rw[iK s k h,iV.eq_def];simp only;rw[if_neg hO,if_neg hO,if_pos hO]
theorem aLz (s:ByteArray) (k:Nat) (h:k<s.size) (out:List UInt8) (h1:(s[k].toNat:Int)=34):iV (s.data.toList.drop k) k out=(out,k+1,0):=by
 rw[iK s k h,iV.eq_def];simp only;rw[if_pos hO]
theorem aNy (s:ByteArray) (k:Nat) (h:k<s.size) (out:List UInt8) (h2:(s[k].toNat:Int)<32):iV (s.data.toList.drop k) k out=([],k,2):=by
 rw[iK s k h,iV.eq_def];simp only;rw[if_neg hO,if_pos hO]
theorem aNz (s:ByteArray) (k:Nat) (h:s.size<=k) (out:List UInt8):iV (s.data.toList.drop k) k out=([],k,10):=by
 rw[kY (by rw[cY];exact h),iV.eq_def]
theorem aD1 (s:ByteArray) (k:Nat) (h:s.size<=k):s.data.toList.drop k=[]:=kY (by rw[cY];exact h)
abbrev scV (k n:Int) (t:ByteArray):Value:=.agg #[.int .i64 k,.int .i64 n,.string t]
theorem aGQ (t:ByteArray):t.toList.isEmpty=decide (t.data.toList=[]):=by
 rw[dJ];cases t.data.toList<;>simp
def TkL (T:TypeId) (w:World) (v:Value) (l:List Tok):Prop:=∃(a:Option Addr) (c:Nat),v=.slice a l.length c/\l.length<=maxLen/\
 (0<l.length->∃(g:Nat) (cs:Array Value) (fr:Nat×Nat),a=some ⟨g,0,none⟩/\w.heap[g]? =some (.cells cs T fr)/\∀j (h:j<l.length) (k:Nat) (u:Value),(bN l[j])[k]? =some u->cs[j*5+k]? =some u)
section
variable {T : TypeId} {w w' : World} {v : Value} {l : List Tok}
theorem TkL.kept {row:Option Nat} (h:TkL T w v l) (hg:w.grownBy w' row) (hT:∀X,row=some X->∀cs fr,w.heap[X]? ≠some (.cells cs T fr)):TkL T w' v l:=by
 obtain⟨a,c,h1,h2,h3⟩:=h;refine⟨a,c,h1,h2,fun h0=> ?_⟩;obtain⟨g,cs,fr,h4,h5,h6⟩:=h3 h0;exact⟨g,cs,fr,h4,(hg.block g (gZ h5) (fun e=>hT g e.symm cs fr h5)).trans h5,h6⟩
theorem TkL.later (h:TkL T w v l) (hb:Below w.heap.size w w'):TkL T w' v l:=h.kept (row:=none) ⟨hb.os,hb.tape,hb.output,hb.size,fun k hk _=>hb.block k hk⟩ (fun X e=>by cases e)
theorem TkL.but {X:Nat} {cs:Array Value} {U:TypeId} {fr:Nat×Nat} (h:TkL T w v l) (k:iL X w w') (hX:w.heap[X]? =some (.cells cs U fr)) (hT:U≠T):TkL T w' v l:=h.kept k.by_ (fun Y e Jc N4 h'=>by
 cases e
 rw[hX]at h';simp only[bA,dK]at h';exact hT h'.2.1)
theorem TkL.shape (h:TkL T w v l):∃a c,v=.slice a l.length c/\l.length<=maxLen:=by
 obtain⟨a,c,h1,h2,_⟩:=h;exact⟨a,c,h1,h2⟩
theorem TkL.row (h:TkL T w v l) {j:Nat} (hj:j<l.length):∃g c,v=.slice (some ⟨g,0,none⟩) l.length c/\w.rangeAt g (j*5) (bN l[j]).toList:=by
 obtain⟨a,c,h1,_,h3⟩:=h;obtain⟨g,cs,fr,rfl,h5,h6⟩:=h3 hO;refine⟨g,c,h1,fun k u hu=>aG h5 (h6 j hj k u ?_)⟩;rw[<-Array.getElem?_toList];exact hu
theorem TkL.nil (T:TypeId) (w:World):TkL T w (.slice none 0 0) []:=⟨none,0,rfl,aS _,fun h=>absurd h uAy⟩
end
end Go.Proofs.YthmfgidbcghnfaaGreatDoor
namespace Go.Proofs.YthmfgidbcghnfaaGreatDoor
open Go.RowKit
def aSv (h:Nat) (ks:List Kid):Prop:=∀p∈ks,(2<=ks.length->8<=p.k)/\(ks.length=1->h=0\/2<=p.k)
theorem Fit.wide {h N:Nat} {ks:List Kid} (hf:Fit N ks) (hN:h=0\/2<=N):aSv h ks:=fun p hp=>⟨(hf.2 p hp).1,fun h1=>by rw[(hf.2 p hp).2 h1];exact hN⟩
def lenV:Value->Nat
 | .slice _ n _=>n
 |_=>0
theorem sL {w w1:World} {c:Array Value} {T:TypeId} (e:w.alloc (.cells c T)=w1):Below w.heap.size w w1/\w1.heap[w.heap.size]? =some (.cells c T (0,0))/\w1.heap.size=w.heap.size+1:=by
 exact Am5
theorem aHw {W:World} {S:Nat->Prop} {h:Nat} {v:Value} {p:Kid} {ks:List Kid} (hn:jS S W h v (p::ks)):∃g o c,v=.slice (some ⟨g,o,none⟩) (ks.length+1) c/\W.rangeAt g o (fY h p):=by
 obtain⟨g,o,c,rfl,_,_,_,hc⟩:=hn.1.pos uAy;refine⟨g,o,c,rfl,fun i v hv=>hc i v ?_⟩;have hi:i<4:=by have:=(List.getElem?_eq_some_iff.1 hv).1;exact this
 have:=zT (sO h) (p::ks) 0 i p rfl hi;rw[Nat.zero_mul,eA]at this;rw[this];exact hv
theorem aJ8 (w:World) {S:Nat->Prop} (h:Nat) (v:Value) (ks:List Kid) (hn:jS S w h v ks) (hw:aSv h ks) (hN:(eS ks).length<=100000):
    Calls Tryz.prog 151 #[v] w fun e w'=>∃c,e=.returned (.agg c)/\cW (fun g=>S g\/w.heap.size<=g) w' c (eS ks)/\Below w.heap.size w w':=by
  obtain⟨w1,ag⟩:∃w1,w.alloc (.cells #[.int .i64 0,.int .i64 0,.slice none 0 0,.slice none 0 0] 125)=w1:=⟨_,rfl⟩
  obtain⟨af,ai,al⟩:=sL ag;have HX1:=iH ai;have HB1:=iH af;have HS1:=iH al;have AV:=iH (hn.old.later af);have HW:=iH hw;have HN:=iH hN;obtain⟨a,cap,rfl,_⟩:=hn.1.shape;have an:ks.length<=100000:=by
    have:=tC (c:=1) ks fun q hq=>(hn.2 q hq).len0
    omega
  rcases fN ks.length with h0|h0
  ·obtain rfl:=aQ h0
   clear hn hw hN ai af al an h0;go_enter Tryz.func151,Tryz.ntmps151;go_upto_region 1 with fail
   clear ag;go_wp2_with (refine aV rfl 125 _ _ rfl w.heap.size oA rfl rfl 125 _ HX1.out cV rfl (by simp[oA,Value.oneCell']) ?_;intro w5 h5 k5)
   exact aN (bE rfl _ _ w.heap.size 125 _ (0,0) _ rfl h5 Tryz.underlying125 rfl cV) rfl ⟨_,rfl,.inl ⟨rfl,rfl⟩,HB1.out.trans (k5.below (aA _))⟩
  ·have Dj:((ks.length:Int)==0)=false:=aE.2 hO
   have GL:¬((ks.length:Int)=0):=by omega
   have H0:=iH h0;have Hh:(ks.length:Int)<=100000:=by omega
   clear hn hw hN ai af al an h0;go_enter Tryz.func151,Tryz.ntmps151;go_upto_region 1 with fail
   clear ag;go_wp2_with fail
   go_loopw [0] (fun v wr=>∃(h':Nat) (qg:List Kid) (a:Option Addr) (cap:Nat),v=.slice a qg.length cap/\Hid (1<=qg.length/\qg.length<=100000)/\Hid (jS (fun g=>(S g/\g<w.heap.size)\/w1.heap.size<=g) wr h' (.slice a qg.length cap) qg/\aSv h' qg/\eS qg=eS ks)/\Hid (Below w1.heap.size w1 wr)) (fun v _=>lenV v)
   case atStart=>exact⟨h,ks,a,cap,rfl,(by have:=H0.out;exact⟨by omega,by omega⟩),⟨AV.out.weak fun g hg=>.inl hg,HW.out,rfl⟩,bB _ _⟩
   case round=>
     clear AV HW H0 Dj GL Hh;obtain⟨h',qg,a',qu,rfl,HL,HK,HB⟩:=hrel;by_cases h1:1<qg.length
     ·have nl:(qg.length:Int)>1:=by omega
      have Co:Hid (Calls Tryz.prog 174 #[.slice (some ⟨wr.heap.size,0,none⟩) 1 1] (wr.alloc (.cells #[.slice a' qg.length qu] 122)) fun e w'=>∃v,e=.returned v/\∃kn,jS (fun g=>((S g/\g<w.heap.size)\/w1.heap.size<=g)\/(wr.alloc (.cells #[.slice a' qg.length qu] 122)).heap.size<=g) w' (h'+1) v kn/\eS kn=eS qg/\Fit qg.length kn/\Below (wr.alloc (.cells #[.slice a' qg.length qu] 122)).heap.size (wr.alloc (.cells #[.slice a' qg.length qu] 122)) w'):=
        aEg _ h' wr.heap.size [(.slice a' qg.length qu,qg)] (fun k hk=>by obtain rfl:k=0:=uKw;exact aG (aC wr _) rfl)
          (fun p hp=>by rw[bV]at hp;subst hp;exact HK.out.1.1.later (Below.newly' _ _)) qg (by simp[fB]) (fun q hq=>⟨(HK.out.2.1 q hq).1 h1,(HK.out.1.2 q hq).later (Below.newly' _ _)⟩) (by rw[HK.out.2.2];exact HN.out) uAy
      have Hh:(qg.length:Int)<=100000:=by have:=HL.out;omega
      have H1:=iH h1;clear h1;go_wp2_with (go_at_call 174;refine Co.out.mono ?_;rintro e w3 ⟨v3,rfl,kn,Dh,zk,um,au⟩;obtain⟨a3,Wr,rfl,_⟩:=Dh.1.shape;have Ws:=iH Dh;have xz:=iH zk;have Dl:=iH um;have av:=iH au;clear Dh zk um au)
      go_roundw
      case rel=>
        have hb:=HB.out.size;have bh:Below wr.heap.size wr w3:=(Below.newly' wr _).trans (av.out.mono uAy);have hf:=Dl.out.1;have h1:=H1.out;have hl:=HL.out;refine⟨h'+1,kn,a3,Wr,rfl,⟨by rw[hf];unfold lJ;omega,by rw[hf];unfold lJ;omega⟩,⟨Ws.out.weak fun g hg=> ?_,Dl.out.wide (.inr hO),xz.out.trans HK.out.2.2⟩,HB.out.trans (bh.mono hb)⟩;rcases hg with hg|hg
        ·exact hg
        ·simp at hg;exact .inr hO
      case measure=>
        have h1:=H1.out;simp only[lenV];rw[Dl.out.1];unfold lJ;omega
     ·have nl:¬((qg.length:Int)>1):=by omega
      have hl:=HL.out;obtain⟨p,hp⟩:∃p,qg=[p]:=by
        match qg,hl,h1 with
        |[p],_,_=>exact⟨p,rfl⟩
        |[],hl,_=>simp at hl
        |_::_::_,_,h1=>simp at h1
      subst hp;obtain⟨g,o,c,e,hr⟩:=aHw HK.out.1;simp only[aK,eA,eJ,cQ,yA]at e;obtain⟨rfl,rfl⟩:=e;have HR:=iH hr;have HX:=iH ((HB.out.block _ uBu).trans HX1.out);have xw:Hid ((fY h' p).toArray.all (·.oneCell')=true):=by
        show _=_;rw[cD];intro u hu;exact vT h' p u uPy
      clear hr hl h1;simp only[cQ]at*
      go_wp2_with (first
        |(refine cO rfl 125 _ rfl g o rfl (fY h' p) _ HR.out Tryz.underlying125 rfl cV ?_)
        |(refine aV rfl 125 _ _ rfl w.heap.size (fY h' p).toArray rfl rfl 125 _ HX.out cV rfl xw.out ?_;intro w5 h5 k5))
      have hk:=HK.out;have al:=HS1.out;refine aN (bE rfl _ _ w.heap.size 125 _ (0,0) _ rfl h5 Tryz.underlying125 rfl cV) rfl ⟨_,rfl,.inr ⟨h',p,rfl,by rw[<-hk.2.2,aA2],?_,(hk.2.1 p (bV.2 rfl)).2 rfl⟩,(HB1.out.trans (HB.out.mono hO)).trans (k5.below (aA _))⟩;refine((hk.1.2 p (bV.2 rfl)).kept k5.by_ (fun X e=>by cases e;rintro(h|h)<;>omega)).weak fun g hg=> ?_
      exact Ae6
def wN (W:World) (v:Value) (f:Nat->Int) (n:Nat):Prop:=∃(a:Option Addr) (b o cap:Nat),v=.slice a n cap/\n<=cap/\(0<n->a=some ⟨b,o,none⟩)/\∀j,j<n->W.cell? ⟨b,o+j,none⟩=some (.int .i64 (f j))
theorem wN.later {W W':World} {v:Value} {f:Nat->Int} {n:Nat} (h:wN W v f n) (hb:Below W.heap.size W W'):wN W' v f n:=by
 obtain⟨a,b,o,cap,h1,h2,h3,h4⟩:=h;exact⟨a,b,o,cap,h1,h2,h3,fun j hj=>(hb.cell (p:=⟨b,o+j,none⟩) (aO W _ (h4 j hj))).trans (h4 j hj)⟩
theorem wN.congr {W:World} {v:Value} {f g:Nat->Int} {n:Nat} (h:wN W v f n) (e:∀j,j<n->f j=g j):wN W v g n:=by
 obtain⟨a,b,o,cap,h1,h2,h3,h4⟩:=h;exact⟨a,b,o,cap,h1,h2,h3,fun j hj=>by rw[<-e j hj];exact h4 j hj⟩
theorem wN.places {W:World} {v:Value} {f:Nat->Int} {n:Nat} (h:wN W v f n):lV W 1 v (fi f) n:=by
 obtain⟨a,b,o,cap,rfl,h2,h3,h4⟩:=h;exact⟨a,cap,rfl,fun h0=>⟨_,h3 h0,fun j hj=>by rw[rE];exact h4 j hO⟩⟩
def sS (k sk:Int):Int:=if sk=0 then(if k=4 then 0 else 3)else if sk=1 then(if k=5 then 0 else 3)else if sk=2 then(if k=6 then 0 else 3)else 1
def atT (a:Tr) (i:Int) (t:ByteArray):Option Nat:=
 if a.k=4 then(if 0<=i/\i<a.xs.length then some i.toNat else none)
 else if a.k=5 then a.ks.findIdx? (fun y=>decide (y=t))
 else a.xs.findIdx? (fun y=>decide (dW y=kb t))
def aDZ (a:Tr) (sk i:Int) (t:ByteArray):Tr×Int:=
 if sS a.k sk≠0 then(jH,sS a.k sk)else match atT a i t with
  |none=>(jH,5)
  |some j=>((a.xs[j]?).getD jH,0)
theorem aSI {a:Tr} (h:kL a) {i:Int} {t:ByteArray} {j:Nat} (e:atT a i t=some j):j<a.xs.length:=by
 unfold atT at e;split at e
 ·split at e
  ·cases e;omega
  ·cases e
 ·split at e
  ·rename_i h5
   have h1:=(List.findIdx?_eq_some_iff_getElem.1 e).1;rcases(iA.1 h).2 with h|⟨_,_,h|h|h⟩
   ·omega
   ·omega
   ·rw[<-h.2.1];exact h1
   ·omega
  ·exact(List.findIdx?_eq_some_iff_getElem.1 e).1
def tQ (a:Tr):List (Int×Int×ByteArray):=
 if a.k=4 then(List.range a.xs.length).map fun(i:Nat)=>((0:Int),(i:Int),(⟨#[]⟩:ByteArray))
 else if a.k=5 then a.ks.map fun y=>(1,0,y)
 else a.xs.map fun x=>(2,0,⟨(dW x).toArray⟩)
theorem aAb {a:Tr} (h:kL a):(tQ a).length=a.xs.length:=by
 unfold tQ;split
 ·simp
 ·split
  ·rename_i h5
   rw[aM];rcases(iA.1 h).2 with h|⟨_,_,h|h|h⟩
   ·omega
   ·omega
   ·exact h.2.1
   ·omega
  ·rw[aM]
end Go.Proofs.YthmfgidbcghnfaaGreatDoor
