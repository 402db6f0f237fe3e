import Derived.Test.YthmfgidbcghnfaaGreatDoorQ0
import Derived.Test.YthmfgidbcghnfaaGreatDoorQ11
set_option maxRecDepth 1000000
set_option maxHeartbeats 8000000
set_option linter.unusedSimpArgs false
namespace Go.Proofs.YthmfgidbcghnfaaGreatDoor
open Go.RowKit
theorem aIy:(Tryz.prog.info? 82).map (·.size)=some 2:=by kernel_rfl
theorem aQb:liesAt Tryz.prog Tryz.prog.depth 82 (2/Tryz.prog.cellsOf 82) 0 82 1=true:=by kernel_rfl
theorem aIz:(Tryz.prog.info? 5).map (fun i=>(i.zero,i.size,i.bytes))=some (some (.int .u8 0),1,1):=by kernel_rfl
theorem aD5 (b:Nat) (w:World) (h0:w.cell? ⟨b,0,none⟩=some (.pointer (some ⟨b,0,none⟩))):
  Calls Tryz.prog 106 #[.pointer (some ⟨b,0,none⟩)] w fun e w'=>e=.returned (.tuple #[])/\w'=w:=by
 obtain⟨j,hj,_⟩:=eR.1 aIy;go_enter Tryz.func106,Tryz.ntmps106;go_wp2
 rw[Lib.run_neq_ptr_same w _ Tryz.underlying80 hj];go_wp2
 go_end0;exact⟨rfl,rfl⟩
theorem aBl (b:Nat) (w:World) (h0:w.cell? ⟨b,0,none⟩=some (.pointer none)) (AW:w.shape? b=some (82,2)) (AX:w.frozen? ⟨b,0,none⟩=false):
  Calls Tryz.prog 106 #[.pointer (some ⟨b,0,none⟩)] w fun e w'=>e=.returned (.tuple #[])/\w'=w.setCell ⟨b,0,none⟩ (.pointer (some ⟨b,0,none⟩)):=by
 obtain⟨j,hj,Wu⟩:=eR.1 aIy;go_enter Tryz.func106,Tryz.ntmps106;go_wp2
 rw[Lib.run_to_unsafe w ⟨b,0,none⟩ Tryz.underlying80 Tryz.underlying178 hj (by rw[Wu];decide) AW (Nat.zero_lt_succ 1)];simp only[Result.andThen];rw[Oper.upon_value];go_wp2
 rw[cJ Tryz.func144 uAu uAu uAu (e:=Extern.AbiNoEscape.same) uAu];rw[Lib.run_noEscape];simp only[Result.andThen];rw[Oper.upon_value];go_wp2
 rw[Lib.run_from_unsafe w ⟨b,0,none⟩ Tryz.underlying178 Tryz.underlying80 hj AW aQb];simp only[Result.andThen];rw[Oper.upon_value];go_wp2
 go_end0;exact⟨rfl,rfl⟩
abbrev Bld (B b:Nat) (l:List UInt8) (w:World):Prop:=Lib.IsBuilderF 82 5 B b (Lib.byteCells l) w
def mX (B b:Nat) (w w':World):Prop:=Below B w w'/\Lib.OthersKept 5 (some b) w w'
theorem aB3 (B b:Nat) (bs:List Value) (w:World) (h:Lib.IsBuilderF 82 5 B b bs w):
  Calls Tryz.prog 106 #[.pointer (some ⟨b,0,none⟩)] w fun e w'=>e=.returned (.tuple #[])/\Lib.BuilderAtF 82 5 B b (.pointer (some ⟨b,0,none⟩)) bs w'/\mX B b w w':=by
 rcases h with h|h
 ·refine(aBl b w h.cell0 h.shape h.frozen0).mono ?_
  rintro e w' ⟨rfl,rfl⟩;exact⟨rfl,h.used _,(bB B w).setCell (p:=⟨b,0,none⟩) h.1 _,(Lib.OthersKept.refl _ _ w).setCell ⟨b,0,none⟩ rfl _⟩
 ·refine(aD5 b w h.cell0).mono ?_
  rintro e w' ⟨rfl,rfl⟩;exact⟨rfl,h,bB B _,Lib.OthersKept.refl _ _ _⟩
theorem aAF (B b:Nat) (l:List UInt8) (s:ByteArray) (w:World) (h:Bld B b l w) (an:l.length+s.size<=140737488355328) (Gd:B<=w.heap.size):
  Calls Tryz.prog 59 #[.pointer (some ⟨b,0,none⟩),.string s] w fun e w'=>e=.returned (.tuple #[.int .i64 s.size,.nilIface])/\Bld B b (l++s.data.toList) w'/\mX B b w w':=by
 obtain⟨i0,hi,Hl,jg,P6⟩:=dO aIz;go_enter Tryz.func59,Tryz.ntmps59;go_wp2_with fail
 refine(aB3 B b _ _ h).mono ?_;rintro e w1 ⟨rfl,h1,af,gd⟩;obtain⟨hB,v,jf,di,bn⟩:=h1;have c0:w1.cell? ⟨b,0,none⟩=some (.pointer (some ⟨b,0,none⟩)):=by rw[jK jf];rfl
 have c1:w1.cell? ⟨b,1,none⟩=some v:=by rw[jK jf];rfl
 have Bo:=eU (show(Lib.byteCells l).length=l.length by simp[Lib.byteCells]);go_wp2_with (at_builtin;refine Lib.wpList_append_own_stringF _ rfl _ _ 72 9 rfl B 5 i0 Tryz.underlying72 Tryz.underlying9 hi Hl jg P6 _ _ _ rfl di s rfl ?c3 ?c4 ?c5 ?_)
 case c3=>rw[Bo.out];unfold maxLen;omega
 case c4=>rw[Bo.out];omega
 case c5=>have:=af.size;omega
 intro v' w2 x9 se _;have hlt:b<w1.heap.size:=by
  exact Aj4
 have ah:w2.heap[b]? =some (.cells #[.pointer (some ⟨b,0,none⟩),v] 82 (0,0)):=by
  rw[se.block b hlt (fun e=>bn e.symm)];exact jf
 have d0:w2.cell? ⟨b,0,none⟩=some (.pointer (some ⟨b,0,none⟩)):=by rw[jK ah];rfl
 have d1:w2.cell? ⟨b,1,none⟩=some v:=by rw[jK ah];rfl
 have f1:w2.frozen? ⟨b,1,none⟩=false:=Lib.frozen_of_heap ah 1;obtain⟨ao,n',cap,rfl⟩:∃ao n' cap,v'=.slice ao n' cap:=by
  exact Aj7
 go_wp2
 go_ret2;have e:Lib.byteCells (l++s.data.toList)=Lib.byteCells l++Lib.strCells s:=by simp[Lib.byteCells,Lib.strCells]
 refine⟨rfl,.inr ?_,?_,(gd.grown se (Lib.ownsRowF_kind di)).setCell ⟨b,1,none⟩ rfl _⟩
 ·rw[e];exact Lib.BuilderAtF.put (T:=82) (e:=5) hB ah (bs':=Lib.byteCells l++Lib.strCells s) (by rw[aB,Lib.strCells_length];exact x9) uAv
 ·exact(af.grown se (by have:=af.size;omega) (fun k hk=>(di.lt k hk).1)).setCell (p:=⟨b,1,none⟩) hB _
theorem aDi (B b:Nat) (l:List UInt8) (w:World) (h:Bld B b l w) (Gd:B<=w.heap.size):
  Calls Tryz.prog 43 #[.pointer (some ⟨b,0,none⟩)] w fun e w'=>e=.returned (.string ⟨l.toArray⟩)/\Below B w w':=
 (Tryz.Builder_String_any_k B b l w h Gd).mono fun _ _ h=>⟨h.1,h.2.2.1⟩
theorem aL6 (w:World):Bld w.heap.size w.heap.size [] (w.alloc (.cells #[.pointer none,.slice none 0 0] 82)):=
 .inl ⟨aA _,.slice none 0 0,heap_alloc_new w _,lM _ _ _ _,by simp[Value.ownBlock]⟩
theorem aGW (s:ByteArray):Lib.strCells s=bv (kb s):=by
 first|rfl|simp[Lib.strCells,bv,kb]
section
variable {B : Nat} {v : Value} {l : List UInt8} {w w' : World}
theorem Buf.own (h:Buf B v l w):v.ownBlock=none\/∃g aj fz,v.ownBlock=some g/\B<=g/\w.heap[g]? =some (.cells aj 5 fz):=by
 obtain⟨⟨_,h2⟩,_⟩:=h;exact Ai8
theorem Buf.kw {Ts:TypeId->Prop} {n₀ Y:Nat} (h:Buf B v l w) (hg:w.grownBy w' v.ownBlock) (hn:n₀<=B) (he:Ts 5):KW Ts n₀ Y w w':=by
 rcases h.own with h1|⟨g,aj,fz,h1,h2,h3⟩
 ·rw[h1]at hg
  exact KW.below ⟨hg.os,hg.tape,hg.output,hg.size,fun k hk=>hg.block k hk uAy⟩ (aI hn h.2)
 ·exact Am4
theorem Buf.ikw {Ts:TypeId->Prop} {Y:Nat} (h:Buf B v l w) (k:IKW Ts Y w w') (he:Ts 5):Buf B v l w':=by
 obtain⟨⟨h1,h2⟩,h3⟩:=h;refine⟨⟨h1,h2.imp_right ?_⟩,aI h3 k.1⟩;exact Ak3
theorem Buf.grown {row:Option Nat} (h:Buf B v l w) (hg:w.grownBy w' row) (bn:v.ownBlock=none\/v.ownBlock≠row):Buf B v l w':=⟨h.1.kept hg bn,aI h.2 hg.size⟩
theorem Buf.keepsT (h:Buf B v l w) (hg:w.grownBy w' v.ownBlock) {Y:Nat} {c:Array Value} {T:TypeId} {fr:Nat×Nat} (hT:5≠T) (ho:w.heap[Y]? =some (.cells c T fr)):w'.heap[Y]? =some (.cells c T fr):=by
 exact Ae5
theorem Buf.ne_box {X:Nat} {T:TypeId} {u:Value} (h:Buf B v l w) (hb:Boxed w X T u) (hT:5≠T):v.ownBlock=none\/v.ownBlock≠some X:=by
 exact Ad7
end
theorem aSh {o:Oper} {a:Act} {K:Act->World->Prop} {Q:Exit->Act->World->Prop} {w:World} (s x:Operand)
  (ho:o.op=.call {callee:=.builtin .append,args:=#[s,x],argTypes:=#[72,72]})
  {B:Nat} {v:Value} {l:List UInt8} (hs:a.eval s=v) (hb:Buf B v l w) (r:List UInt8) (ad:Addr) (c:Nat) (hx:a.eval x=.slice (some ad) r.length c)
  (hc:∀j u,(bv r)[j]? =some u->w.cell? (ad.add j)=some u) (an:l.length+r.length<=140737488355328)
  (h:∀v' w',Buf B v' (l++r) w'->w.grownBy w' v.ownBlock->K (a.put o.dst v') w'):o.wp Tryz.prog a w K Q:=by
 obtain⟨i,hi,hz,h1,h2⟩:=dO aBs;obtain⟨v',w',hr,g1,g2,_⟩:=uX (P:=Tryz.prog) w B 72 o.type 5 i (.int .u8 0) 1 1 Tryz.underlying72 hi hz h1 h2 rfl uAv v l.length (bv l) hb.1 ad r.length c (bv r) (by rw[aJO];omega) hc aQ7
  uCx hO hb.2
 unfold Oper.wp execOp;simp only[ho,resolve,invoke,builtin,eG,eZ,cR,iE,cA,gY,hs,hx,hr];exact h v' w' ⟨by rw[aB,aJP];exact g1,aI hb.2 g2.size⟩ g2
theorem aA3 {ops:Array Oper} {rest:List Oper} {o:Oper} {a:Act} {Q:Exit->Act->World->Prop} {w:World} (fj:o.guard=none) (s x:Operand)
  (ho:o.op=.call {callee:=.builtin .append,args:=#[s,x],argTypes:=#[72,72]})
  {B:Nat} {v:Value} {l:List UInt8} (hs:a.eval s=v) (hb:Buf B v l w) (r:List UInt8) (cs:Array Value) (ep:cs=(bv r).toArray) (n c:Nat) (hn:n=r.length) (hx:a.eval x=.slice (some ⟨w.heap.size,0,none⟩) n c)
  (an:l.length+r.length<=140737488355328)
  (h:∀v' w',Buf B v' (l++r) w'->(w.alloc (.cells cs 5)).grownBy w' v.ownBlock->wpList Tryz.prog ops Q rest (a.put o.dst v') w'):wpList Tryz.prog ops Q (o::rest) a (w.alloc (.cells cs 5)):=by
 subst hn;exact gC fj fun _ hK=>aSh s x ho hs (hb.alloc _) r ⟨w.heap.size,0,none⟩ c hx (aAq w r cs ep) an fun v' w' h1 h2=>hK _ _ (h v' w' h1 h2)
theorem aGg {o:Oper} {a:Act} {K:Act->World->Prop} {Q:Exit->Act->World->Prop} {w:World} (s x:Operand)
  (ho:o.op=.call {callee:=.builtin .append,args:=#[s,x],argTypes:=#[72,9]})
  {B:Nat} {v:Value} {l:List UInt8} (hs:a.eval s=v) (hb:Buf B v l w) (t:ByteArray) (hx:a.eval x=.string t) (an:l.length+t.size<=140737488355328)
  (h:∀v' w',Buf B v' (l++kb t) w'->w.grownBy w' v.ownBlock->K (a.put o.dst v') w'):o.wp Tryz.prog a w K Q:=by
 obtain⟨i,hi,hz,h1,h2⟩:=dO aBs;obtain⟨v',w',hr,g1,g2,_⟩:=Lib.run_append_own_stringF (P:=Tryz.prog) w B 72 9 o.type 5 i Tryz.underlying72 Tryz.underlying9 hi hz h1 h2 v l.length (bv l) hb.1 t uCx an hb.2;unfold Oper.wp execOp;simp only[ho,resolve,invoke,builtin,eG,eZ,cR,iE,cA,gY,hs,hx,hr];refine h v' w' ⟨?_,aI hb.2 g2.size⟩ g2;have e:(kb t).length=t.size:=bM;rw[aB,aJP,e,<-aGW];exact g1
end Go.Proofs.YthmfgidbcghnfaaGreatDoor
namespace Go.Proofs.YthmfgidbcghnfaaGreatDoor
open Go.RowKit
def aDn (S:Nat->Prop) (W:World) (T:TypeId) (s:Nat) (v:Value) (cs:List Value) (n:Nat):Prop:=
 cs.length=n*s/\((n=0/\v=.slice none 0 0)\/(0<n/\∃(g c:Nat) (aj:Array Value),v=.slice (some ⟨g,0,none⟩) n c/\n<=c/\S g/\W.heap[g]? =some (.cells aj T (0,0))/\∀(j:Nat) (u:Value),cs[j]? =some u->aj[j]? =some u))
theorem aDn.head {S:Nat->Prop} {W:World} {T:TypeId} {s n:Nat} {v:Value} {cs:List Value} (h:aDn S W T s v cs n):dE S W T s v cs n:=by
 obtain⟨h0,h⟩:=h;refine⟨h0,h.imp_right ?_⟩;rintro⟨h1,g,c,aj,h2,h3,hS,h4,h5⟩;exact⟨h1,g,c,aj,(0,0),h2,h3,hS,h4,h5⟩
theorem xW {n:Nat} {v:Value} {cs:List Value} {s:Nat} {w:World} {base:Nat} {e:TypeId} (h:w.ownsRow base e s v n cs) (h0:0<n):aDn (fun g=>base<=g) w e s v cs n:=by
 obtain⟨hl,⟨rfl,rfl⟩|⟨g,cap,aj,rfl,hb,hg,hc,h3,h4,h5⟩⟩:=h
 ·omega
 ·refine⟨hl,.inr ⟨h0,g,cap,aj,rfl,hc,hb,hg,fun j u hu=> ?_⟩⟩
  have hj:=(List.getElem?_eq_some_iff.1 hu).1;rw[hl]at hj;rw[<-h5,List.getElem?_take_of_lt hj,Array.getElem?_toList]at hu;exact hu
def aG7 (hs:ByteArray->Nat) (e:Ent):Array Value:=#[.string e.1,.int .u64 (hs e.1:Nat),.int .i64 e.2.k,.int .i64 e.2.n,.string e.2.t,.pointer e.2.p]
def jT (hs:ByteArray->Nat) (S:Nat->Prop) (w:World) (b:Nat) (e:Ent):Prop:=S b/\∃fr,w.heap[b]? =some (.cells (aG7 hs e) 213 fr)
def pZ (hs:ByteArray->Nat) (S:Nat->Prop) (w:World) (ND:List Ent->Array Value->Prop) (L:List Ent) (p:Option Pl):Prop:=
 match L with
 |[]=>p=none
 |[e]=>∃b,p=some (some b,none)/\jT hs S w b e
 |_::_::_=>∃b c fr,p=some (none,some b)/\S b/\w.heap[b]? =some (.cells c 134 fr)/\ND L c
def dI (hs:ByteArray->Nat) (S:Nat->Prop):Nat->World->List Ent->Array Value->Prop
 |0,w,L,c=>∃(v:Value) (qs:List (Nat×Ent)),c=#[.int .u32 0,.slice none 0 0,v]/\aDn S w 211 1 v (en enE (qs.map (·.1))) L.length/\L=qs.map (·.2)/\∀q∈qs,jT hs S w q.1 q.2
 |f+1,w,L,c=>∃(v:Value) (R:Rg Pl),c=#[.int .u32 (eV R 32:Nat),v,.slice none 0 0]/\dE S w 258 2 v (en oK (oH R)) (gB R 32)/\
  ∀i,i<32->pZ hs S w (dI hs S f w) (chE hs (12-f) i L) (R i)
def HmO (o:Obj):Prop:=∃cs T fr,o=.cells cs T fr/\(T=213\/T=134\/T=258\/T=211)
def Kp (S:Nat->Prop) (w w':World):Prop:=∀g o,S g->HmO o->w.heap[g]? =some o->w'.heap[g]? =some o
section
variable {hs : ByteArray → Nat} {S S' : Nat → Prop} {w w' Ea : World}
theorem dE.weak' {T:TypeId} {s n:Nat} {v:Value} {cs:List Value} (h:dE S w T s v cs n) (hS:∀g c,v=.slice (some ⟨g,0,none⟩) n c->S g->S' g):dE S' w T s v cs n:=by
 obtain⟨h0,h⟩:=h;refine⟨h0,h.imp_right ?_⟩;rintro⟨h1,g,c,aj,fr,h2,h3,hg,h4⟩;exact⟨h1,g,c,aj,fr,h2,h3,hS g c h2 hg,h4⟩
theorem Kp.later (hb:Below w.heap.size w w'):Kp S w w':=fun g _ _ _ h=>(hb.block g (gZ h)).trans h
theorem Kp.low {n₀:Nat} (hb:Below n₀ w w') (hS:∀g,S g->g<n₀):Kp S w w':=fun g _ hg _ h=>(hb.block g (hS g hg)).trans h
theorem Kp.only {X:Nat} (k:iL X w w') (hX:¬S X):Kp S w w':=fun _ _ hg _ h=>k.other h (fun e=>hX (e▸hg))
theorem Kp.grown {row:Option Nat} (hg:w.grownBy w' row) (hX:∀X,row=some X->¬S X):Kp S w w':=fun g _ hS _ h=>(hg.block g (gZ h) (fun e=>hX g e.symm hS)).trans h
theorem Kp.trans (h:Kp S w w') (k:Kp S w' Ea):Kp S w Ea:=fun g o hg ho e=>k g o hg ho (h g o hg ho e)
theorem dE.kp {T:TypeId} {s n:Nat} {v:Value} {cs:List Value} (h:dE S w T s v cs n) (k:Kp S w w') (hT:T=258\/T=211):dE S w' T s v cs n:=by
 obtain⟨h0,h⟩:=h;refine⟨h0,h.imp_right ?_⟩;rintro⟨h1,g,c,aj,fr,h2,h3,hS,h4,h5⟩;exact⟨h1,g,c,aj,fr,h2,h3,hS,k g _ hS ⟨_,_,_,rfl,by rcases hT with h|h<;>simp[h]⟩ h4,h5⟩
theorem aDn.imp {T:TypeId} {s n:Nat} {v:Value} {cs:List Value} (h:aDn S w T s v cs n) (k:Kp S w w') (hT:T=258\/T=211) (hS:∀g,S g->g<w.heap.size->S' g):aDn S' w' T s v cs n:=by
 obtain⟨h0,h⟩:=h;refine⟨h0,h.imp_right ?_⟩;rintro⟨h1,g,c,aj,h2,h3,hg,h4,h5⟩;exact⟨h1,g,c,aj,h2,h3,hS g hg (gZ h4),k g _ hg ⟨_,_,_,rfl,by rcases hT with h|h<;>simp[h]⟩ h4,h5⟩
theorem jT.kp {b:Nat} {e:Ent} (h:jT hs S w b e) (k:Kp S w w'):jT hs S w' b e:=by
 obtain⟨h1,fr,h2⟩:=h;exact⟨h1,fr,k b _ h1 ⟨_,_,_,rfl,.inl rfl⟩ h2⟩
theorem jT.weak {b:Nat} {e:Ent} (h:jT hs S w b e) (hS:∀g,S g->S' g):jT hs S' w b e:=⟨hS b h.1,h.2⟩
theorem jT.lt {b:Nat} {e:Ent} (h:jT hs S w b e):b<w.heap.size:=by
 obtain⟨_,fr,h⟩:=h;exact(gZ h)
theorem jT.old {b:Nat} {e:Ent} (h:jT hs S w b e):jT hs (fun g=>S g/\g<w.heap.size) w b e:=⟨⟨h.1,h.lt⟩,h.2⟩
theorem pZ.imp {ND AY:List Ent->Array Value->Prop} {L:List Ent} {p:Option Pl} (h:pZ hs S w ND L p) (k:Kp S w w') (hS:∀g,S g->g<w.heap.size->S' g) (hN:∀L c,ND L c->AY L c):pZ hs S' w' AY L p:=by
 match L,h with
 |[],h=>exact h
 |[e],h=>
  obtain⟨b,h1,h2⟩:=h;have h3:=h2.kp k;exact⟨b,h1,hS b h2.1 h2.lt,h3.2⟩
 |a::b::r,h=>
  obtain⟨g,c,fr,h1,h2,h3,h4⟩:=h;exact⟨g,c,fr,h1,hS g h2 (gZ h3),k g _ h2 ⟨_,_,_,rfl,.inr (.inl rfl)⟩ h3,hN _ _ h4⟩
theorem dI.imp (k:Kp S w w') (hS:∀g,S g->g<w.heap.size->S' g):∀{f:Nat} {L:List Ent} {c:Array Value},dI hs S f w L c->dI hs S' f w' L c
 |0,L,c,h=>by
  obtain⟨v,qs,h1,h2,h3,h4⟩:=h;exact⟨v,qs,h1,h2.imp k (.inr rfl) hS,h3,fun q hq=>⟨hS _ (h4 q hq).1 (h4 q hq).lt,((h4 q hq).kp k).2⟩⟩
 |f+1,L,c,h=>by
  obtain⟨v,R,h1,h2,h3⟩:=h;refine⟨v,R,h1,((h2.kp k (.inl rfl))).weak' ?_,fun i hi=>(h3 i hi).imp k hS fun _ _ h=>dI.imp k hS h⟩;intro g c e hg;obtain⟨_,⟨_,e2⟩|⟨_,g',c',aj,fr,e2,_,_,e4,_⟩⟩:=h2
  ·rw[e2]at e;cases e
  ·rw[e2]at e
   simp only[eJ,bA,mE]at e;rw[<-e.1.1];exact hS g' (by rw[e.1.1];exact hg) (gZ e4)
theorem dI.kp {f:Nat} {L:List Ent} {c:Array Value} (h:dI hs S f w L c) (k:Kp S w w'):dI hs S f w' L c:=h.imp k fun _ h _=>h
theorem dI.weak {f:Nat} {L:List Ent} {c:Array Value} (h:dI hs S f w L c) (hS:∀g,S g->S' g):dI hs S' f w L c:=h.imp (fun _ _ _ _ e=>e) fun g h _=>hS g h
theorem dI.old {f:Nat} {L:List Ent} {c:Array Value} (h:dI hs S f w L c):dI hs (fun g=>S g/\g<w.heap.size) f w L c:=h.imp (fun _ _ _ _ e=>e) fun _ h h'=>⟨h,h'⟩
theorem dI.later {f:Nat} {L:List Ent} {c:Array Value} (h:dI hs S f w L c) (hb:Below w.heap.size w w'):dI hs S f w' L c:=h.kp (Kp.later hb)
theorem jT.later {b:Nat} {e:Ent} (h:jT hs S w b e) (hb:Below w.heap.size w w'):jT hs S w' b e:=h.kp (Kp.later hb)
theorem pZ.weak {f:Nat} {L:List Ent} {p:Option Pl} (h:pZ hs S w (dI hs S f w) L p) (hS:∀g,S g->S' g):pZ hs S' w (dI hs S' f w) L p:=h.imp (fun _ _ _ _ e=>e) (fun g h _=>hS g h) fun _ _ h=>h.weak hS
theorem pZ.kp {f:Nat} {L:List Ent} {p:Option Pl} (h:pZ hs S w (dI hs S f w) L p) (k:Kp S w w'):pZ hs S w' (dI hs S f w') L p:=h.imp k (fun _ h _=>h) fun _ _ h=>h.kp k
theorem pZ.later {f:Nat} {L:List Ent} {p:Option Pl} (h:pZ hs S w (dI hs S f w) L p) (hb:Below w.heap.size w w'):pZ hs S w' (dI hs S f w') L p:=h.kp (Kp.later hb)
theorem pZ.old {f:Nat} {L:List Ent} {p:Option Pl} (h:pZ hs S w (dI hs S f w) L p):pZ hs (fun g=>S g/\g<w.heap.size) w (dI hs (fun g=>S g/\g<w.heap.size) f w) L p:=h.imp (fun _ _ _ _ e=>e) (fun _ h h'=>⟨h,h'⟩) fun _ _ h=>h.old
def aNl:Array Value:=#[.int .u32 0,.slice none 0 0,.slice none 0 0]
theorem dI.zero (hs:ByteArray->Nat) (S:Nat->Prop) (w:World):∀f,dI hs S f w [] aNl
 |0=>⟨_,[],rfl,⟨rfl,.inl ⟨rfl,rfl⟩⟩,rfl,fun q hq=>by cases hq⟩
 |f+1=>⟨_,noG,by rw[aDj];rfl,by rw[aKw,zY];exact⟨rfl,.inl ⟨rfl,rfl⟩⟩,fun i _=>rfl⟩
theorem dI.three {f:Nat} {L:List Ent} {c:Array Value} (h:dI hs S f w L c):∃(b:Nat) (a1:Option Addr) (n1 c1:Nat) (a2:Option Addr) (n2 c2:Nat),c=#[.int .u32 (b:Int),.slice a1 n1 c1,.slice a2 n2 c2]:=by
 cases f with
 |zero=>
  obtain⟨v,qs,rfl,h2,_⟩:=h;obtain⟨a,n,rfl,_⟩:=h2.head.shape;exact⟨0,none,0,0,a,_,n,rfl⟩
 |succ f=>
  obtain⟨v,R,rfl,h2,_⟩:=h;obtain⟨a,n,rfl,_⟩:=h2.shape;exact⟨_,a,_,n,none,0,0,rfl⟩
theorem dI.size {f:Nat} {L:List Ent} {c:Array Value} (h:dI hs S f w L c):c.size=3:=by
 obtain⟨_,_,_,_,_,_,_,rfl⟩:=h.three;rfl
theorem dI.one {f:Nat} {L:List Ent} {c:Array Value} (h:dI hs S f w L c):c.all (·.oneCell')=true:=by
 obtain⟨_,_,_,_,_,_,_,rfl⟩:=h.three;simp[Value.oneCell']
theorem dI.row {f:Nat} {L:List Ent} {c:Array Value} (h:dI hs S (f+1) w L c):∃(b v:Value) (R:Rg Pl),c=#[b,v,.slice none 0 0]/\AtR S w R #[b,v]/\∀i,i<32->pZ hs S w (dI hs S f w) (chE hs (12-f) i L) (R i):=by
 obtain⟨v,R,rfl,h2,h3⟩:=h;exact⟨_,v,R,rfl,⟨v,rfl,h2⟩,h3⟩
theorem dI.of_row {f:Nat} {L:List Ent} {R:Rg Pl} {c:Array Value} (h:AtR S w R c) (h3:∀i,i<32->pZ hs S w (dI hs S f w) (chE hs (12-f) i L) (R i)):∃b v,c=#[b,v]/\dI hs S (f+1) w L #[b,v,.slice none 0 0]:=by
 obtain⟨v,rfl,h2⟩:=h;exact⟨_,v,rfl,v,R,rfl,h2,h3⟩
end
end Go.Proofs.YthmfgidbcghnfaaGreatDoor
namespace Go.Proofs.YthmfgidbcghnfaaGreatDoor
open Go.RowKit Go.Shelf Go.Lib Go.Sort
theorem vH {α:Type} [Inhabited α] (enc:α->Value) (w:World) (p9 off m:Nat) (dk:Array α) (os:Array Obj) {b:Nat} (hb:b<w.heap.size) (bn:b≠p9):(sortWorld enc w p9 off m dk os).heap[b]? =w.heap[b]? :=by
 unfold sortWorld grow putRow mapBlock;simp only;rw[Array.getElem?_append_left (by simp;exact hb),Array.getElem?_modify,if_neg (fun e=>bn e.symm)];rfl
theorem aNO {α:Type} [Inhabited α] (enc:α->Value) (w:World) (p9 off m:Nat) (dk:Array α) (os:Array Obj) {B:Nat} (hB:B<=w.heap.size) (Pg:B<=p9):Below B w (sortWorld enc w p9 off m dk os):=
 ⟨rfl,rfl,rfl,by simp[sortWorld,grow,putRow,mapBlock],fun k hk=>vH enc w p9 off m dk os hO hO⟩
theorem aQQ {α:Type} [Inhabited α] (enc:α->Value) (w:World) (p9 off m:Nat) (d:Array α) (os:Array Obj) (hH:Holds enc w p9 off d):Below w.heap.size w (sortWorld enc w p9 off m d os):=by
 unfold sortWorld;rw[putRow_self enc (Sort.ahead w m) p9 off d (fun j hj=>hH j hj)];exact⟨rfl,rfl,rfl,by simp[grow,Sort.ahead],fun k hk=>by
  simp only[grow,Sort.ahead];rw[Array.getElem?_append_left hk]⟩
theorem aJw (hs:ByteArray->Nat) (b:Nat) (e:Ent) (k:ByteArray) (w:World) {fr:Nat×Nat} (h:w.heap[b]? =some (.cells (aG7 hs e) 213 fr)):
  Calls Tryz.prog 218 #[pv (some b),.string k] w fun r w'=>r=.returned (.int .i64 (jA (kb e.1) (kb k)))/\w'=w:=by
 have c0:w.cell? ⟨b,0,none⟩=some (.string e.1):=aG h rfl;have HO:=iH (fun w=>aKk e.1 k w);unfold pv;clear h;go_enter Tryz.func218,Tryz.ntmps218;go_wp2_with (go_at_call 168;refine(HO.out _).mono ?_;rintro r w1 ⟨rfl,hw⟩;obtain rfl:=hw)
 go_ret;exact⟨rfl,rfl⟩
def aBm (k:ByteArray) (e:Ent):Int:=jA (kb e.1) (kb k)
theorem aGd (k:ByteArray) (e:Ent):decide (aBm k e<0)=decide (kb e.1<kb k):=by
 have h:=vN (kb e.1) (kb k);have hr:=zD (kb e.1) (kb k);unfold aBm;rw[aB9,<-h];omega
theorem aIn (k:ByteArray) (e:Ent):aBm k e=0↔e.1=k:=by
 unfold aBm;rw[aHo,aTr]
theorem zO (qs:List (Nat×Ent)):∀(j:Nat),(en enE (qs.map (·.1)))[j]? =(qs[j]?).map fun q=>pv (some q.1):=by
 induction qs with
 |nil=>intro j;simp[en]
 |cons q qs ih=>
  intro j;cases j with
  |zero=>simp[en,enE]
  |succ j=>
   have:=ih j;unfold en enE at this ⊢;simp only[cA,cC,nY,List.getElem?_cons_succ];exact this
theorem aEI {hs:ByteArray->Nat} {S:Nat->Prop} (w:World) (L:List Ent) (c:Array Value) (k:ByteArray) (h:dI hs S 0 w L c) (hL:jX L) (hn:L.length<=100000):
  Calls Tryz.prog 178 #[.agg c,.string k] w fun r w'=>r=.returned (.tuple #[.int .i64 ((nG L k).length:Nat),.bool (jB L k).isSome])/\Below w.heap.size w w':=by
 obtain⟨v,qs,rfl,h2,rfl,h4⟩:=h;obtain⟨w1,ag⟩:∃w1,w.alloc (.cells #[.int .u32 0,.slice none 0 0,v] 134)=w1:=⟨_,rfl⟩
 have af:Below w.heap.size w w1:=by rw[<-ag];exact Below.newly' _ _
 have ai:w1.heap[w.heap.size]? =some (.cells #[.int .u32 0,.slice none 0 0,v] 134 (0,0)):=by rw[<-ag];exact aC _ _
 have rm:w1.cell? ⟨w.heap.size,2,none⟩=some v:=aG ai rfl;have HB1:=iH af;obtain⟨hl,h2⟩:=h2;rw[aM]at h2 hl;rcases h2 with⟨h0,rfl⟩|⟨h0,g,cp,aj,rfl,Jm,hS,hg,hc⟩
 ·obtain rfl:qs=[]:=aQ h0
  have HN:=iH (fun W=>Any.slices_BinarySearchFunc_none Tryz.searchL none 0 (.string k) (.func (.func 218) #[] #[]) W);clear h4 hL af ai hl h0;go_enter Tryz.func178,Tryz.ntmps178;go_upto_region 1 with fail
  clear ag;go_wp2_with (go_at_call 217;refine(HN.out _).mono ?_;rintro r w2 ⟨rfl,hw⟩;obtain rfl:=hw.symm)
  go_ret2;exact⟨rfl,HB1.out⟩
 ·
  have Bh:Inhabited {q:Nat×Ent//q∈qs}:=⟨⟨qs[0],aX h0⟩⟩
  obtain⟨d,hd⟩:∃d:Array {q:Nat×Ent//q∈qs},d=qs.attach.toArray:=⟨_,rfl⟩
  have Lm:d.size=qs.length:=by rw[hd];simp
  have td:d.toList.map Subtype.val=qs:=by rw[hd,aGz];exact List.attach_map_subtype_val qs
  have qh:∀j,j<d.size->qs[j]? =some (d[j]!).1:=fun j hj=>by
   exact Af0
  have dj:w1.heap[g]? =some (.cells aj 211 (0,0)):=kW af hg;have Oe:Holds (fun q:{q:Nat×Ent//q∈qs}=>pv (some q.1.1)) w1 g 0 d:=fun j hj=>by
   have hq:=hc j (pv (some (d[j]!).1.1)) (by rw[zO,qh j hj];rfl);refine⟨by rw[eA];exact aG dj hq,?_⟩;simp[World.frozen?,dj]
  have bn:∀q∈qs,q.1≠g:=fun q hq e=>by
   obtain⟨_,fr,hx⟩:=h4 q hq;exact Aj5
  have Hm:CmpLaysT Tryz.prog 218 #[] (fun q:{q:Nat×Ent//q∈qs}=>pv (some q.1.1)) (.string k) (fun q=>aBm k q.1.2) g 0 d.size w1:=fun m os dk _ x=>by
   obtain⟨_,fr,hx⟩:=h4 x.1 x.2;have hlt:=(gZ hx)
   have fl:(sortWorld (fun q:{q:Nat×Ent//q∈qs}=>pv (some q.1.1)) w1 g 0 m dk os).heap[x.1.1]? =some (.cells (aG7 hs x.1.2) 213 fr):=
    (vH _ w1 g 0 m dk os (bK hlt af.size) (bn x.1 x.2)).trans ((af.block _ hlt).trans hx)
   refine(aJw hs x.1.1 x.1.2 k _ fl).mono ?_;rintro r w' ⟨rfl,rfl⟩;exact⟨rfl,0,#[],by rw[grow_empty];rfl⟩
  have eg:∀args w,(callFunc 218 args).run Tryz.prog w=.ok (.enter 218 args) w:=iX Tryz.func218 uAu rfl
  have Jq:∀a b,a<=b->b<d.size->aBm k (d[b]!).1.2<0->aBm k (d[a]!).1.2<0:=fun a b hab hb hlt=>by
   have h1:kb (d[b]!).1.2.1<kb k:=by have:=aGd k (d[b]!).1.2;simpa[hlt]using this
   have h2:kb (d[a]!).1.2.1<kb k:=by
    rcases eB a b with Wv|qq
    ·have hp:=jF.1 hL a b (by rw[aM];omega) (by rw[aM];omega) Wv
     have ea:=qh a hO;have eb:=qh b hb;rw[List.getElem?_eq_getElem hO]at ea eb;simp only[List.getElem_map,aH ea,aH eb]at hp;exact mD hp h1
    ·obtain rfl:a=b:=by omega
     exact h1
   have:=aGd k (d[a]!).1.2;simpa[h2]using this
  have sf:=Any.slices_BinarySearchFunc Tryz.searchL (fun q:{q:Nat×Ent//q∈qs}=>pv (some q.1.1)) (fun _=>rfl) (.string k) (fun q=>aBm k q.1.2) 218 #[] g 0 cp d w1 eg Hm Oe (gZ dj) (by rw[Lm];rw[aM]at hn;omega) Jq;change Calls Tryz.prog 217 _ _ _ at sf
  rw[Lm]at sf;have P7:d.toList.countP (fun x=>decide (aBm k x.1.2<0))=(nG (qs.map (·.2)) k).length:=by
   have e:d.toList.countP (fun x=>decide (aBm k x.1.2<0))=((d.toList.map Subtype.val).map (·.2)).countP (fun e=>decide (aBm k e<0)):=by
    rw[List.countP_map,List.countP_map];rfl
   rw[e,td,List.countP_eq_length_filter];unfold nG;congr 2
   funext e
   exact aGd k e
  rw[P7]at sf;obtain⟨N,hN⟩:∃N,N=(nG (qs.map (·.2)) k).length:=⟨_,rfl⟩
  have Dm:(decide (N<qs.length)&&decide (aBm k (d[N]!).1.2=0))=(jB (qs.map (·.2)) k).isSome:=by
   obtain⟨p1,p2⟩:=aIA hL k;rw[<-hN]at p1 p2;by_cases hlt:N<qs.length
   ·have ha:=qh N hO
    have hp:=p1 (d[N]!).1.2 (by rw[List.getElem?_map,ha];rfl);rw[gT hlt,lF];cases hg:(jB (qs.map (·.2)) k).isSome with
    |true=>rw[eI];exact(aIn k _).2 (hp.2 hg)
    |false=>
     rw[iD];intro h0;have:=hp.1 ((aIn k _).1 h0);rw[hg]at this;cases this
   ·rw[dB hlt,Bool.false_and]
    cases hg:(jB (qs.map (·.2)) k).isSome with
    |false=>rfl
    |true=>
     obtain⟨e,he,_⟩:=p2 hg;have:=(List.getElem?_eq_some_iff.1 he).1;rw[aM]at this;omega
  rw[<-hN]at sf ⊢;rw[Dm]at sf;have HC:=iH sf;have Jr:=iH Oe;obtain⟨R,hR⟩:∃R,R=(jB (qs.map (·.2)) k).isSome:=⟨_,rfl⟩
  rw[<-hR]at HC ⊢;clear sf Dm P7 Jq eg Hm bn Oe dj qh td hd h4 hL af ai hl hc hg hS Jm hn hN hR;go_enter Tryz.func178,Tryz.ntmps178;go_upto_region 1 with fail
  clear ag;go_wp2_with (go_at_call 217;refine HC.out.mono ?_;rintro r w2 ⟨rfl,m,os,hw⟩;have fy:=iH hw;clear hw)
  go_ret2;exact⟨rfl,by rw[fy.out];exact HB1.out.trans ((aQQ _ w1 g 0 m d os Jr.out).mono HB1.out.size)⟩
end Go.Proofs.YthmfgidbcghnfaaGreatDoor
namespace Go.Proofs.YthmfgidbcghnfaaGreatDoor
open Go.RowKit
abbrev scT (k n:Int) (t:ByteArray):Sc:=(k,n,t.data.toList)
end Go.Proofs.YthmfgidbcghnfaaGreatDoor
namespace Go.Proofs.YthmfgidbcghnfaaGreatDoor
open Go.RowKit Go.Deep
theorem aFw {H:Type} {enc:TypeId×Value->H} {P:Program} {w:World} {base:Nat} {sp:Nat->Bool} {held:Bool} {fuel:Nat} {t e:TypeId} {n:Nat} {cs:List Value} {zs:List (List UInt8)} {p:List MemPlace}
  (ht:P.underlying t=some (.array n e)) (he:P.underlying e=some .string) (ce:P.cellsOf e=1) (ct:P.cellsOf t=n)
  (h:DataW.trod enc P w base sp held fuel t cs=some (.agg (zs.map fun z=>.lit (.string z)),p)):cs=zs.map fun z=>.string ⟨z.toArray⟩:=by
 obtain⟨xs,m,rfl,hx,hl,hn,N5⟩:=DataW.trod_array ht h;have mr:(zs.map fun z=>(.lit (.string z):DataW H))=xs.map (·.1):=by
  have:=aU Prod.fst hx;simpa using this
 have lz:zs.length=n:=by
  have:=aU List.length mr;simpa[hn]using this
 rw[ce]at N5;rw[ct]at hl;apply aA6;intro i;by_cases hi:i<n
 ·have h1:=N5 i hi
  have AZ:i<zs.length:=by omega
  have h2:(xs.map (·.1))[i]? =some (.lit (.string zs[i])):=by rw[<-mr];simp[List.getElem?_map,List.getElem?_eq_getElem AZ]
  rw[List.getElem?_map]at h2;cases hy:xs[i]? with
  |none=>rw[hy]at h2;simp at h2
  |some y=>
   rw[hy]at h1 h2;simp only[aDr,bA]at h2;obtain⟨s,e1,e2,_⟩:=DataW.trod_string he h1;subst e2;simp only[DataW.lit.injEq,Lit.string.injEq]at h2;rw[nL]at e1;have e3:cs[i]? =some (.string s):=by
    have:=aU (fun l=>l[0]?) e1;simpa[List.getElem?_take,List.getElem?_drop]using this
   rw[e3,List.getElem?_map,List.getElem?_eq_getElem AZ,aDr,<-h2]
 ·rw[List.getElem?_eq_none hO,List.getElem?_eq_none uCy]
def sgN:String:=Rows.codecEncodesRow.named.getD 1 (String.ofList [])
def Sg (w:World):Prop:=w.var? Tryz.prog sgN=some sgC
theorem Sg.below {w w':World} (h:Sg w) (hb:Below w.heap.size w w'):Sg w':=by
 unfold Sg World.var? at*
 cases hg:Tryz.prog.globalNamed sgN with
 |none=>simp[hg]at h
 |some g=>
  simp only[hg,lH]at h ⊢;have hlt:g<w.heap.size:=by
   exact Aj3
  rw[hb.block g hlt];exact h
theorem Sg.heap {w:World} (h:Sg w):∃t fr,w.heap[1]? =some (.cells sgC t fr):=by
 unfold Sg World.var? at h;rw[show Tryz.prog.globalNamed sgN=some 1 by kernel_rfl]at h;simp only[lH]at h;split at h
 ·rename_i cs t fr hg
  exact⟨t,fr,by rw[hg,aH h]⟩
 ·cases h
theorem aQX:(Tryz.prog.info? 201).map (·.size)=some 23:=by kernel_rfl
theorem sg_ix (j:Nat) (h:j<23) (w:World):(Instr.index 201 (.agg sgC) (.int .i64 (j:Int))).run Tryz.prog w=.ok (.string ⟨(gE[j]'(by simpa[gE]using h)).toArray⟩) w:=by
 match j,h with
 |0,_=>show _=_;kernel_rfl
 |1,_=>show _=_;kernel_rfl
 |2,_=>show _=_;kernel_rfl
 |3,_=>show _=_;kernel_rfl
 |4,_=>show _=_;kernel_rfl
 |5,_=>show _=_;kernel_rfl
 |6,_=>show _=_;kernel_rfl
 |7,_=>show _=_;kernel_rfl
 |8,_=>show _=_;kernel_rfl
 |9,_=>show _=_;kernel_rfl
 |10,_=>show _=_;kernel_rfl
 |11,_=>show _=_;kernel_rfl
 |12,_=>show _=_;kernel_rfl
 |13,_=>show _=_;kernel_rfl
 |14,_=>show _=_;kernel_rfl
 |15,_=>show _=_;kernel_rfl
 |16,_=>show _=_;kernel_rfl
 |17,_=>show _=_;kernel_rfl
 |18,_=>show _=_;kernel_rfl
 |19,_=>show _=_;kernel_rfl
 |20,_=>show _=_;kernel_rfl
 |21,_=>show _=_;kernel_rfl
 |22,_=>show _=_;kernel_rfl
 |k+23,hk=>exact absurd hk hO
end Go.Proofs.YthmfgidbcghnfaaGreatDoor
namespace Go.Proofs.YthmfgidbcghnfaaGreatDoor
open Go.RowKit
def T13 (w:World):Prop:=Esc w/\ET w/\Sg w
theorem T13.below {w w':World} (h:T13 w) (hb:Below w.heap.size w w'):T13 w':=⟨h.1.below hb,h.2.1.below hb,h.2.2.below hb⟩
theorem T13.et {w:World} (h:T13 w):ET w:=h.2.1
theorem T13.sg {w:World} (h:T13 w):Sg w:=h.2.2
def nxR (l:List UInt8) (a:Nat):Except (Nat×Int) Tok:=
 if(cB l a).2.2≠0 then .error (cB l a).2 else if(cB l a).1.k=0 then .error (l.length,10)else .ok (cB l a).1
def isS (t:Tok) (c:UInt8):Bool:=t.k=1&&t.t==[c]
def tabN:String:=Rows.codecEncodesRow.named.getD 3 (String.ofList [])
def Tab (w:World):Prop:=Lib.TabIs Tryz.prog w tabN .u64 Lib.pow10Tab
theorem Tab.below {w w':World} (h:Tab w) (hb:Below w.heap.size w w'):Tab w':=Lib.tabBelow_of_tabIs h w' hb
theorem aCt (n:Int) (w:World) (hn:InR n) (Lf:Tab w):Calls Tryz.prog 73 #[.int .i64 n] w fun e w'=>e=.returned (.string ⟨(Lib.itoa n).toArray⟩)/\Below w.heap.size w w':=by
 have hb:Hid (∀k os,Below w.heap.size w (Go.Sort.grow (w.drewN k) os)):=fun k os=>Lib.below_grow _ _ (aA _) _ _
 obtain⟨h0,h1⟩:=hn;go_enter Tryz.func73,Tryz.ntmps73;go_wp2_with (go_at_call 116;refine(Any.strconv_FormatInt_10 Tryz.laysM173 n h0 h1 _ Lf).mono ?_;rintro e w' ⟨rfl,k,os,rfl⟩)
 go_ret;exact⟨rfl,hb.out _ _⟩
theorem aPK (s:ByteArray) (k:Nat) (h:k<s.size):yL (s.data.toList.take (k+1))=yL (s.data.toList.take k)++yM s[k]:=by
 rw[aBX s k h];simp[yL]
end Go.Proofs.YthmfgidbcghnfaaGreatDoor
