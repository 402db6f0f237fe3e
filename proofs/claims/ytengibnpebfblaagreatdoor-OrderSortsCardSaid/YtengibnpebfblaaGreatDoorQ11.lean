import Derived.Test.YtengibnpebfblaaGreatDoorQ0
import Derived.Test.YtengibnpebfblaaGreatDoorQ8
import Derived.Test.YtengibnpebfblaaGreatDoorQ10
set_option maxRecDepth 1000000
set_option maxHeartbeats 8000000
set_option linter.unusedSimpArgs false
namespace Go.Proofs.YtengibnpebfblaaGreatDoor
open Go.RowKit
def aCh (S:Nat->Prop) (W:World) (T:TypeId) (s:Nat) (v:Value) (cs:List Value) (n:Nat):Prop:=
 cs.length=n*s/\((n=0/\v=.slice none 0 0)\/(0<n/\∃(g c:Nat) (cur:Array Value),v=.slice (some ⟨g,0,none⟩) n c/\n<=c/\S g/\W.heap[g]? =some (.cells cur T (0,0))/\∀(j:Nat) (u:Value),cs[j]? =some u->cur[j]? =some u))
theorem aCh.head {S:Nat->Prop} {W:World} {T:TypeId} {s n:Nat} {v:Value} {cs:List Value} (h:aCh S W T s v cs n):dP S W T s v cs n:=by
 obtain⟨h0,h⟩:=h;refine⟨h0,h.imp_right ?_⟩;rintro⟨h1,g,c,cur,h2,h3,hS,h4,h5⟩;exact⟨h1,g,c,cur,(0,0),h2,h3,hS,h4,h5⟩
theorem wQ {n:Nat} {v:Value} {cs:List Value} {s:Nat} {w:World} {base:Nat} {e:TypeId} (h:w.ownsRow base e s v n cs) (h0:0<n):aCh (fun g=>base<=g) w e s v cs n:=by
 obtain⟨hl,⟨rfl,rfl⟩|⟨g,cap,cur,rfl,hb,hg,hc,h3,h4,h5⟩⟩:=h
 ·omega
 ·refine⟨hl,.inr ⟨h0,g,cap,cur,rfl,hc,hb,hg,fun j u hu=> ?_⟩⟩
  have hj:=(List.getElem?_eq_some_iff.1 hu).1;rw[hl]at hj;rw[<-h5,List.getElem?_take_of_lt hj,Array.getElem?_toList]at hu;exact hu
def aEi (hs:ByteArray->Nat) (e:Ent):Array Value:=#[.string e.1,.int .u64 (hs e.1:Nat),.int .i64 e.2.k,.int .i64 e.2.n,.string e.2.t,.pointer e.2.p]
def jI (hs:ByteArray->Nat) (S:Nat->Prop) (w:World) (b:Nat) (e:Ent):Prop:=S b/\∃fr,w.heap[b]? =some (.cells (aEi hs e) 163 fr)
def oY (hs:ByteArray->Nat) (S:Nat->Prop) (w:World) (ND:List Ent->Array Value->Prop) (L:List Ent) (p:Option Pl):Prop:=
 match L with
 |[]=>p=none
 |[e]=>∃b,p=some (some b,none)/\jI hs S w b e
 |_::_::_=>∃b c fr,p=some (none,some b)/\S b/\w.heap[b]? =some (.cells c 96 fr)/\ND L c
def dF (hs:ByteArray->Nat) (S:Nat->Prop):Nat->World->List Ent->Array Value->Prop
 |0,w,L,c=>∃(v:Value) (qs:List (Nat×Ent)),c=#[.int .u32 0,.slice none 0 0,v]/\aCh S w 161 1 v (en enE (qs.map (·.1))) L.length/\L=qs.map (·.2)/\∀q∈qs,jI hs S w q.1 q.2
 |f+1,w,L,c=>∃(v:Value) (R:Rg Pl),c=#[.int .u32 (eS R 32:Nat),v,.slice none 0 0]/\dP S w 186 2 v (en nH (nG R)) (fQ R 32)/\
  ∀i,i<32->oY hs S w (dF hs S f w) (chE hs (12-f) i L) (R i)
def HmO (o:Obj):Prop:=∃cs T fr,o=.cells cs T fr/\(T=163\/T=96\/T=186\/T=161)
def Kp (S:Nat->Prop) (w w':World):Prop:=∀g o,S g->HmO o->w.heap[g]? =some o->w'.heap[g]? =some o
section
variable {hs : ByteArray → Nat} {S S' : Nat → Prop} {w w' w'' : World}
theorem dP.weak' {T:TypeId} {s n:Nat} {v:Value} {cs:List Value} (h:dP S w T s v cs n) (hS:∀g c,v=.slice (some ⟨g,0,none⟩) n c->S g->S' g):dP S' w T s v cs n:=by
 obtain⟨h0,h⟩:=h;refine⟨h0,h.imp_right ?_⟩;rintro⟨h1,g,c,cur,fr,h2,h3,hg,h4⟩;exact⟨h1,g,c,cur,fr,h2,h3,hS g c h2 hg,h4⟩
theorem Kp.later (hb:Below w.heap.size w w'):Kp S w w':=fun g _ _ _ h=>(hb.block g (gZ h)).trans h
theorem Kp.low {n₀:Nat} (hb:Below n₀ w w') (hS:∀g,S g->g<n₀):Kp S w w':=fun g _ hg _ h=>(hb.block g (hS g hg)).trans h
theorem Kp.only {X:Nat} (k:jK X w w') (hX:¬S X):Kp S w w':=fun _ _ hg _ h=>k.other h (fun e=>hX (e▸hg))
theorem Kp.grown {row:Option Nat} (hg:w.grownBy w' row) (hX:∀X,row=some X->¬S X):Kp S w w':=fun g _ hS _ h=>(hg.block g (gZ h) (fun e=>hX g e.symm hS)).trans h
theorem Kp.trans (h:Kp S w w') (k:Kp S w' w''):Kp S w w'':=fun g o hg ho e=>k g o hg ho (h g o hg ho e)
theorem dP.kp {T:TypeId} {s n:Nat} {v:Value} {cs:List Value} (h:dP S w T s v cs n) (k:Kp S w w') (hT:T=186\/T=161):dP S w' T s v cs n:=by
 obtain⟨h0,h⟩:=h;refine⟨h0,h.imp_right ?_⟩;rintro⟨h1,g,c,cur,fr,h2,h3,hS,h4,h5⟩;exact⟨h1,g,c,cur,fr,h2,h3,hS,k g _ hS ⟨_,_,_,rfl,by rcases hT with h|h<;>simp[h]⟩ h4,h5⟩
theorem aCh.imp {T:TypeId} {s n:Nat} {v:Value} {cs:List Value} (h:aCh S w T s v cs n) (k:Kp S w w') (hT:T=186\/T=161) (hS:∀g,S g->g<w.heap.size->S' g):aCh S' w' T s v cs n:=by
 obtain⟨h0,h⟩:=h;refine⟨h0,h.imp_right ?_⟩;rintro⟨h1,g,c,cur,h2,h3,hg,h4,h5⟩;exact⟨h1,g,c,cur,h2,h3,hS g hg (gZ h4),k g _ hg ⟨_,_,_,rfl,by rcases hT with h|h<;>simp[h]⟩ h4,h5⟩
theorem jI.kp {b:Nat} {e:Ent} (h:jI hs S w b e) (k:Kp S w w'):jI hs S w' b e:=by
 obtain⟨h1,fr,h2⟩:=h;exact⟨h1,fr,k b _ h1 ⟨_,_,_,rfl,.inl rfl⟩ h2⟩
theorem jI.weak {b:Nat} {e:Ent} (h:jI hs S w b e) (hS:∀g,S g->S' g):jI hs S' w b e:=⟨hS b h.1,h.2⟩
theorem jI.lt {b:Nat} {e:Ent} (h:jI hs S w b e):b<w.heap.size:=by
 obtain⟨_,fr,h⟩:=h;exact(gZ h)
theorem jI.old {b:Nat} {e:Ent} (h:jI hs S w b e):jI hs (fun g=>S g/\g<w.heap.size) w b e:=⟨⟨h.1,h.lt⟩,h.2⟩
theorem oY.imp {ND ND':List Ent->Array Value->Prop} {L:List Ent} {p:Option Pl} (h:oY hs S w ND L p) (k:Kp S w w') (hS:∀g,S g->g<w.heap.size->S' g) (hN:∀L c,ND L c->ND' L c):oY hs S' w' ND' L p:=by
 match L,h with
 |[],h=>exact h
 |[e],h=>
  obtain⟨b,h1,h2⟩:=h;have h3:=h2.kp k;exact⟨b,h1,hS b h2.1 h2.lt,h3.2⟩
 |a::b::r,h=>
  obtain⟨g,c,fr,h1,h2,h3,h4⟩:=h;exact⟨g,c,fr,h1,hS g h2 (gZ h3),k g _ h2 ⟨_,_,_,rfl,.inr (.inl rfl)⟩ h3,hN _ _ h4⟩
theorem dF.imp (k:Kp S w w') (hS:∀g,S g->g<w.heap.size->S' g):∀{f:Nat} {L:List Ent} {c:Array Value},dF hs S f w L c->dF hs S' f w' L c
 |0,L,c,h=>by
  obtain⟨v,qs,h1,h2,h3,h4⟩:=h;exact⟨v,qs,h1,h2.imp k (.inr rfl) hS,h3,fun q hq=>⟨hS _ (h4 q hq).1 (h4 q hq).lt,((h4 q hq).kp k).2⟩⟩
 |f+1,L,c,h=>by
  obtain⟨v,R,h1,h2,h3⟩:=h;refine⟨v,R,h1,((h2.kp k (.inl rfl))).weak' ?_,fun i hi=>(h3 i hi).imp k hS fun _ _ h=>dF.imp k hS h⟩;intro g c e hg;obtain⟨_,⟨_,e2⟩|⟨_,g',c',cur,fr,e2,_,_,e4,_⟩⟩:=h2
  ·rw[e2]at e;cases e
  ·rw[e2]at e
   simp only[dR,cC,nB]at e;rw[<-e.1.1];exact hS g' (by rw[e.1.1];exact hg) (gZ e4)
theorem dF.kp {f:Nat} {L:List Ent} {c:Array Value} (h:dF hs S f w L c) (k:Kp S w w'):dF hs S f w' L c:=h.imp k fun _ h _=>h
theorem dF.weak {f:Nat} {L:List Ent} {c:Array Value} (h:dF hs S f w L c) (hS:∀g,S g->S' g):dF hs S' f w L c:=h.imp (fun _ _ _ _ e=>e) fun g h _=>hS g h
theorem dF.old {f:Nat} {L:List Ent} {c:Array Value} (h:dF hs S f w L c):dF hs (fun g=>S g/\g<w.heap.size) f w L c:=h.imp (fun _ _ _ _ e=>e) fun _ h h'=>⟨h,h'⟩
theorem dF.later {f:Nat} {L:List Ent} {c:Array Value} (h:dF hs S f w L c) (hb:Below w.heap.size w w'):dF hs S f w' L c:=h.kp (Kp.later hb)
theorem jI.later {b:Nat} {e:Ent} (h:jI hs S w b e) (hb:Below w.heap.size w w'):jI hs S w' b e:=h.kp (Kp.later hb)
theorem oY.weak {f:Nat} {L:List Ent} {p:Option Pl} (h:oY hs S w (dF hs S f w) L p) (hS:∀g,S g->S' g):oY hs S' w (dF hs S' f w) L p:=h.imp (fun _ _ _ _ e=>e) (fun g h _=>hS g h) fun _ _ h=>h.weak hS
theorem oY.kp {f:Nat} {L:List Ent} {p:Option Pl} (h:oY hs S w (dF hs S f w) L p) (k:Kp S w w'):oY hs S w' (dF hs S f w') L p:=h.imp k (fun _ h _=>h) fun _ _ h=>h.kp k
theorem oY.later {f:Nat} {L:List Ent} {p:Option Pl} (h:oY hs S w (dF hs S f w) L p) (hb:Below w.heap.size w w'):oY hs S w' (dF hs S f w') L p:=h.kp (Kp.later hb)
theorem oY.old {f:Nat} {L:List Ent} {p:Option Pl} (h:oY hs S w (dF hs S f w) L p):oY hs (fun g=>S g/\g<w.heap.size) w (dF hs (fun g=>S g/\g<w.heap.size) f w) L p:=h.imp (fun _ _ _ _ e=>e) (fun _ h h'=>⟨h,h'⟩) fun _ _ h=>h.old
def aJI:Array Value:=#[.int .u32 0,.slice none 0 0,.slice none 0 0]
theorem dF.zero (hs:ByteArray->Nat) (S:Nat->Prop) (w:World):∀f,dF hs S f w [] aJI
 |0=>⟨_,[],rfl,⟨rfl,.inl ⟨rfl,rfl⟩⟩,rfl,fun q hq=>by cases hq⟩
 |f+1=>⟨_,noG,by rw[aCa];rfl,by rw[aHJ,zG];exact⟨rfl,.inl ⟨rfl,rfl⟩⟩,fun i _=>rfl⟩
theorem dF.three {f:Nat} {L:List Ent} {c:Array Value} (h:dF hs S f w L c):∃(b:Nat) (a1:Option Addr) (n1 c1:Nat) (a2:Option Addr) (n2 c2:Nat),c=#[.int .u32 (b:Int),.slice a1 n1 c1,.slice a2 n2 c2]:=by
 cases f with
 |zero=>
  obtain⟨v,qs,rfl,h2,_⟩:=h;obtain⟨a,n,rfl,_⟩:=h2.head.shape;exact⟨0,none,0,0,a,_,n,rfl⟩
 |succ f=>
  obtain⟨v,R,rfl,h2,_⟩:=h;obtain⟨a,n,rfl,_⟩:=h2.shape;exact⟨_,a,_,n,none,0,0,rfl⟩
theorem dF.size {f:Nat} {L:List Ent} {c:Array Value} (h:dF hs S f w L c):c.size=3:=by
 obtain⟨_,_,_,_,_,_,_,rfl⟩:=h.three;rfl
theorem dF.one {f:Nat} {L:List Ent} {c:Array Value} (h:dF hs S f w L c):c.all (·.oneCell')=true:=by
 obtain⟨_,_,_,_,_,_,_,rfl⟩:=h.three;simp[Value.oneCell']
theorem dF.row {f:Nat} {L:List Ent} {c:Array Value} (h:dF hs S (f+1) w L c):∃(b v:Value) (R:Rg Pl),c=#[b,v,.slice none 0 0]/\AtR S w R #[b,v]/\∀i,i<32->oY hs S w (dF hs S f w) (chE hs (12-f) i L) (R i):=by
 obtain⟨v,R,rfl,h2,h3⟩:=h;exact⟨_,v,R,rfl,⟨v,rfl,h2⟩,h3⟩
theorem dF.of_row {f:Nat} {L:List Ent} {R:Rg Pl} {c:Array Value} (h:AtR S w R c) (h3:∀i,i<32->oY hs S w (dF hs S f w) (chE hs (12-f) i L) (R i)):∃b v,c=#[b,v]/\dF hs S (f+1) w L #[b,v,.slice none 0 0]:=by
 obtain⟨v,rfl,h2⟩:=h;exact⟨_,v,rfl,v,R,rfl,h2,h3⟩
end
end Go.Proofs.YtengibnpebfblaaGreatDoor
namespace Go.Proofs.YtengibnpebfblaaGreatDoor
open Go.RowKit
def aNi (h:Nat) (ks:List Kid):Prop:=∀p∈ks,(2<=ks.length->8<=p.k)/\(ks.length=1->h=0\/2<=p.k)
theorem Fit.wide {h N:Nat} {ks:List Kid} (hf:Fit N ks) (hN:h=0\/2<=N):aNi h ks:=fun p hp=>⟨(hf.2 p hp).1,fun h1=>by rw[(hf.2 p hp).2 h1];exact hN⟩
def lenV:Value->Nat
 | .slice _ n _=>n
 |_=>0
theorem sB {w w1:World} {c:Array Value} {T:TypeId} (e:w.alloc (.cells c T)=w1):Below w.heap.size w w1/\w1.heap[w.heap.size]? =some (.cells c T (0,0))/\w1.heap.size=w.heap.size+1:=by
 exact Al0
theorem aFv {W:World} {S:Nat->Prop} {h:Nat} {v:Value} {p:Kid} {ks:List Kid} (hn:jH S W h v (p::ks)):∃g o c,v=.slice (some ⟨g,o,none⟩) (ks.length+1) c/\W.rangeAt g o (iC h p):=by
 obtain⟨g,o,c,rfl,_,_,_,hc⟩:=hn.1.pos uBu;refine⟨g,o,c,rfl,fun i v hv=>hc i v ?_⟩;have hi:i<4:=by have:=(List.getElem?_eq_some_iff.1 hv).1;exact this
 have:=aBZ (uS h) (p::ks) 0 i p rfl hi;rw[Nat.zero_mul,dL]at this;rw[this];exact hv
theorem aGL (w:World) {S:Nat->Prop} (h:Nat) (v:Value) (ks:List Kid) (hn:jH S w h v ks) (hw:aNi h ks) (hN:(eV ks).length<=100000):
    Calls Tryz.prog 83 #[v] w fun e w'=>∃c,e=.returned (.agg c)/\dS (fun g=>S g\/w.heap.size<=g) w' c (eV ks)/\Below w.heap.size w w':=by
  obtain⟨w1,hw1⟩:∃w1,w.alloc (.cells #[.int .i64 0,.int .i64 0,.slice none 0 0,.slice none 0 0] 86)=w1:=⟨_,rfl⟩
  obtain⟨hb1,hx1,hs1⟩:=sB hw1;have HX1:=iH hx1;have HB1:=iH hb1;have HS1:=iH hs1;have HNR:=iH (hn.old.later hb1);have HW:=iH hw;have HN:=iH hN;obtain⟨a,cap,rfl,_⟩:=hn.1.shape;have hlen:ks.length<=100000:=by
    have:=sP (c:=1) ks fun q hq=>(hn.2 q hq).len0
    omega
  rcases gP ks.length with h0|h0
  ·obtain rfl:=aT h0
   clear hn hw hN hx1 hb1 hs1 hlen h0;go_enter Tryz.func83,Tryz.ntmps83;go_upto_region 1 with fail
   clear hw1;go_wp2_with (refine bV rfl 86 _ _ rfl w.heap.size qC rfl rfl 86 _ HX1.out dY rfl (by simp[qC,Value.oneCell']) ?_;intro w5 h5 k5)
   exact bF (cE rfl _ _ w.heap.size 86 _ (0,0) _ rfl h5 Tryz.underlying86 rfl dY) rfl ⟨_,rfl,.inl ⟨rfl,rfl⟩,HB1.out.trans (k5.below (aE _))⟩
  ·have h0':((ks.length:Int)==0)=false:=bJ.2 uAu
   have h0i:¬((ks.length:Int)=0):=by omega
   have H0:=iH h0;have hl5:(ks.length:Int)<=100000:=by omega
   clear hn hw hN hx1 hb1 hs1 hlen h0;go_enter Tryz.func83,Tryz.ntmps83;go_upto_region 1 with fail
   clear hw1;go_wp2_with fail
   go_loopw [0] (fun v wr=>∃(h':Nat) (ks':List Kid) (a:Option Addr) (cap:Nat),v=.slice a ks'.length cap/\Hid (1<=ks'.length/\ks'.length<=100000)/\Hid (jH (fun g=>(S g/\g<w.heap.size)\/w1.heap.size<=g) wr h' (.slice a ks'.length cap) ks'/\aNi h' ks'/\eV ks'=eV ks)/\Hid (Below w1.heap.size w1 wr)) (fun v _=>lenV v)
   case atStart=>exact⟨h,ks,a,cap,rfl,(by have:=H0.out;exact⟨by omega,by omega⟩),⟨HNR.out.weak fun g hg=>.inl hg,HW.out,rfl⟩,aY _ _⟩
   case round=>
     clear HNR HW H0 h0' h0i hl5;obtain⟨h',ks',a',cap',rfl,HL,HK,HB⟩:=hrel;by_cases h1:1<ks'.length
     ·have h1':(ks'.length:Int)>1:=by omega
      have HIN:Hid (Calls Tryz.prog 109 #[.slice (some ⟨wr.heap.size,0,none⟩) 1 1] (wr.alloc (.cells #[.slice a' ks'.length cap'] 84)) fun e w'=>∃v,e=.returned v/\∃kn,jH (fun g=>((S g/\g<w.heap.size)\/w1.heap.size<=g)\/(wr.alloc (.cells #[.slice a' ks'.length cap'] 84)).heap.size<=g) w' (h'+1) v kn/\eV kn=eV ks'/\Fit ks'.length kn/\Below (wr.alloc (.cells #[.slice a' ks'.length cap'] 84)).heap.size (wr.alloc (.cells #[.slice a' ks'.length cap'] 84)) w'):=
        aCR _ h' wr.heap.size [(.slice a' ks'.length cap',ks')] (fun k hk=>by obtain rfl:k=0:=(by simpa using hk);exact aK (aF wr _) rfl)
          (fun p hp=>by rw[cB]at hp;subst hp;exact HK.out.1.1.later (Below.newly' _ _)) ks' (by simp[eZ]) (fun q hq=>⟨(HK.out.2.1 q hq).1 h1,(HK.out.1.2 q hq).later (Below.newly' _ _)⟩) (by rw[HK.out.2.2];exact HN.out) uBu
      have hl5:(ks'.length:Int)<=100000:=by have:=HL.out;omega
      have H1:=iH h1;clear h1;go_wp2_with (go_at_call 109;refine HIN.out.mono ?_;rintro e w3 ⟨v3,rfl,kn,hn3,hc3,hf3,hb3⟩;obtain⟨a3,cap3,rfl,_⟩:=hn3.1.shape;have HN3:=iH hn3;have HC3:=iH hc3;have HF3:=iH hf3;have HB3:=iH hb3;clear hn3 hc3 hf3 hb3)
      go_roundw
      case rel=>
        have hb:=HB.out.size;have hb4:Below wr.heap.size wr w3:=(Below.newly' wr _).trans (HB3.out.mono uBu);have hf:=HF3.out.1;have h1:=H1.out;have hl:=HL.out;refine⟨h'+1,kn,a3,cap3,rfl,⟨by rw[hf];unfold kI;omega,by rw[hf];unfold kI;omega⟩,⟨HN3.out.weak fun g hg=> ?_,HF3.out.wide (.inr uAu),HC3.out.trans HK.out.2.2⟩,HB.out.trans (hb4.mono hb)⟩;rcases hg with hg|hg
        ·exact hg
        ·simp at hg;exact .inr uAu
      case measure=>
        have h1:=H1.out;simp only[lenV];rw[HF3.out.1];unfold kI;omega
     ·have h1':¬((ks'.length:Int)>1):=by omega
      have hl:=HL.out;obtain⟨p,hp⟩:∃p,ks'=[p]:=by
        match ks',hl,h1 with
        |[p],_,_=>exact⟨p,rfl⟩
        |[],hl,_=>simp at hl
        |_::_::_,_,h1=>simp at h1
      subst hp;obtain⟨g,o,c,e,hr⟩:=aFv HK.out.1;simp only[bG,dL,dR,bM,aAz]at e;obtain⟨rfl,rfl⟩:=e;have HR:=iH hr;have HX:=iH ((HB.out.block _ uBx).trans HX1.out);have HONE:Hid ((iC h' p).toArray.all (·.oneCell')=true):=by
        show _=_;rw[cO];intro u hu;exact yW h' p u uNy
      clear hr hl h1;simp only[bM]at*
      go_wp2_with (first
        |(refine dA rfl 86 _ rfl g o rfl (iC h' p) _ HR.out Tryz.underlying86 rfl dY ?_)
        |(refine bV rfl 86 _ _ rfl w.heap.size (iC h' p).toArray rfl rfl 86 _ HX.out dY rfl HONE.out ?_;intro w5 h5 k5))
      have hk:=HK.out;have hs1:=HS1.out;refine bF (cE rfl _ _ w.heap.size 86 _ (0,0) _ rfl h5 Tryz.underlying86 rfl dY) rfl ⟨_,rfl,.inr ⟨h',p,rfl,by rw[<-hk.2.2,zK],?_,(hk.2.1 p (cB.2 rfl)).2 rfl⟩,(HB1.out.trans (HB.out.mono uAu)).trans (k5.below (aE _))⟩;refine((hk.1.2 p (cB.2 rfl)).kept k5.by_ (fun X e=>by cases e;rintro(h|h)<;>omega)).weak fun g hg=> ?_
      exact Af6
end Go.Proofs.YtengibnpebfblaaGreatDoor
