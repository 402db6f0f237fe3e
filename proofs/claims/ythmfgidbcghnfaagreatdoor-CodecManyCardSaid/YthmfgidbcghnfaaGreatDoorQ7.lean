import Derived.Test.YthmfgidbcghnfaaGreatDoorQ0
import Derived.Test.YthmfgidbcghnfaaGreatDoorQ6
set_option maxRecDepth 1000000
set_option maxHeartbeats 8000000
set_option linter.unusedSimpArgs false
namespace Go.Proofs.YthmfgidbcghnfaaGreatDoor
open Go.RowKit
abbrev Ent:=ByteArray×Cel
def kb (k:ByteArray):List UInt8:=k.data.toList
theorem vU {a b:ByteArray} (h:kb a=kb b):a=b:=by
 apply ByteArray.ext;exact Array.toList_inj.1 h
theorem aTr {a b:ByteArray}:kb a=kb b↔a=b:=⟨vU,fun h=>by rw[h]⟩
def jX (L:List Ent):Prop:=L.Pairwise fun a b=>kb a.1<kb b.1
theorem jX.filter {L:List Ent} (h:jX L) (p:Ent->Bool):jX (L.filter p):=List.Pairwise.filter p h
theorem jX.nil:jX []:=List.Pairwise.nil
theorem jX.one (e:Ent):jX [e]:=List.pairwise_singleton _ e
def jB (L:List Ent) (k:ByteArray):Option Cel:=(L.find? fun e=>decide (e.1=k)).map (·.2)
def aS1 (L:List Ent) (k:ByteArray):List Ent:=L.filter fun e=>decide (e.1≠k)
def nG (L:List Ent) (k:ByteArray):List Ent:=L.filter fun e=>decide (kb e.1<kb k)
def rG (L:List Ent) (k:ByteArray):List Ent:=L.filter fun e=>decide (kb k<kb e.1)
def nD (L:List Ent) (k:ByteArray) (x:Cel):List Ent:=nG L k++(k,x)::rG L k
theorem qE {a b:ByteArray} (h:kb a<kb b):a≠b:=fun e=>by subst e;exact iJ _ h
theorem rQ {a b:ByteArray} (h:kb a<kb b):¬kb b<kb a:=fun k=>iJ _ (mD h k)
theorem tri (a b:ByteArray):kb a<kb b\/a=b\/kb b<kb a:=by
 by_cases h:a=b
 ·exact .inr (.inl h)
 ·rcases aK6 (kb a) (kb b) (fun e=>h (vU e))with h|h
  ·exact .inl h
  ·exact .inr (.inr h)
theorem jX.ins {L:List Ent} (h:jX L) (k:ByteArray) (x:Cel):jX (nD L k x):=by
 unfold jX nD;rw[List.pairwise_append];refine⟨h.filter _,?_,?_⟩
 ·rw[gG]
  refine⟨fun e he=> ?_,h.filter _⟩;simpa using(kO.1 he).2
 ·intro a ha b hb
  have AN:kb a.1<kb k:=by simpa using(kO.1 ha).2
  rcases bL.1 hb with rfl|hb
  ·exact AN
  ·have Bj:kb k<kb b.1:=by simpa using(kO.1 hb).2
   exact mD AN Bj
theorem aKq {L:List Ent} {k:ByteArray} {x:Cel} {e:Ent}:e∈nD L k x↔e=(k,x)\/(e∈L/\e.1≠k):=by
 unfold nD nG rG;rw[dL,bL,kO,kO];constructor
 ·rintro(⟨h1,h2⟩|h|⟨h1,h2⟩)
  ·exact .inr ⟨h1,qE (by simpa using h2)⟩
  ·exact .inl h
  ·exact .inr ⟨h1,(qE (by simpa using h2)).symm⟩
 ·rintro(h|⟨h1,h2⟩)
  ·exact .inr (.inl h)
  ·rcases tri e.1 k with h|h|h
   ·exact .inl ⟨h1,by simpa using h⟩
   ·exact absurd h h2
   ·exact .inr (.inr ⟨h1,by simpa using h⟩)
theorem jX.inj {L:List Ent} (h:jX L) {a b:Ent} (ha:a∈L) (hb:b∈L) (e:a.1=b.1):a=b:=by
 induction L with
 |nil=>cases ha
 |cons c L ih=>
  have h':=gG.1 h;rcases bL.1 ha with ha|ha
  ·rcases bL.1 hb with hb|hb
   ·rw[ha,hb]
   ·rw[ha]at e
    exact absurd e (qE (h'.1 b hb))
  ·rcases bL.1 hb with hb|hb
   ·rw[hb]at e
    exact absurd e.symm (qE (h'.1 a ha))
   ·exact ih h'.2 ha hb
theorem aRR {L:List Ent} (h:jX L) {k:ByteArray} {x:Cel}:jB L k=some x↔(k,x)∈L:=by
 unfold jB;rw[eR];constructor
 ·rintro⟨e,he,rfl⟩
  have h1:=List.find?_some he;have h2:=List.mem_of_find?_eq_some he;have nl:e.1=k:=by simpa using h1
  rw[<-nl];exact h2
 ·intro hm
  cases hf:L.find? fun e=>decide (e.1=k)with
  |none=>
   have:=List.find?_eq_none.1 hf _ hm;simp at this
  |some e=>
   have h1:=List.find?_some hf;have nl:e.1=k:=by simpa using h1
   have h2:=h.inj (List.mem_of_find?_eq_some hf) hm nl;exact⟨e,rfl,by rw[h2]⟩
theorem aHY {L:List Ent} {k:ByteArray}:jB L k=none↔∀e∈L,e.1≠k:=by
 unfold jB;rw[Option.map_eq_none_iff,List.find?_eq_none];constructor
 ·intro h e he;simpa using h e he
 ·intro h e he;simpa using h e he
theorem aJA {L:List Ent} (p:Ent->Bool) {k:ByteArray} (hp:∀e∈L,e.1=k->p e=true):jB (L.filter p) k=jB L k:=by
 induction L with
 |nil=>rfl
 |cons e L ih=>
  have ih:=ih fun a ha=>hp a (bF _ ha)
  unfold jB at ih ⊢;by_cases h:e.1=k
  ·have:=hp e aZ h
   rw[eM this];simp[h]
  ·by_cases h2:p e=true
   ·rw[eM h2,List.find?_cons_of_neg (by simp[h]),List.find?_cons_of_neg (by simp[h])]
    exact ih
   ·rw[dV h2,List.find?_cons_of_neg (by simp[h])]
    exact ih
theorem aSk {L:List Ent} (h:jX L) (k:ByteArray):aS1 L k=nG L k++rG L k:=by
 induction L with
 |nil=>rfl
 |cons e L ih=>
  have h':=gG.1 h;have ih:=ih h'.2;unfold aS1 nG rG at ih ⊢;rcases tri e.1 k with hk|hk|hk
  ·rw[eM (by simp[qE hk]),eM uJu,dV (by simp[rQ hk]),ih,aP]
  ·have hb:(L.filter fun e=>decide (kb e.1<kb k))=[]:=by
    rw[rY];intro a ha;have:=h'.1 a ha;rw[hk]at this;simpa using rQ this
   rw[dV uJu,dV (by simp[hk,iJ]),dV (by simp[hk,iJ]),ih]
  ·have hb:(L.filter fun e=>decide (kb e.1<kb k))=[]:=by
    rw[rY];intro a ha;have:=mD hk (h'.1 a ha);simpa using rQ this
   rw[eM (by simp[(qE hk).symm]),dV (by simp[rQ hk]),eM uJu,ih,hb,aT,aT]
def atE (L:List Ent) (k:ByteArray):List Ent:=match jB L k with
 |none=>[]
 |some x=>[(k,x)]
theorem aFJ {L:List Ent} (h:jX L) (k:ByteArray):L=nG L k++(atE L k++rG L k):=by
 induction L with
 |nil=>rfl
 |cons e L ih=>
  have h':=gG.1 h;have ih:=ih h'.2;have Ec:(∀a∈L,kb k<kb a.1)->nG L k=[]/\rG L k=L/\jB L k=none:=fun ha=>by
   refine⟨?_,?_,?_⟩
   ·unfold nG
    rw[rY];intro a h;simpa using rQ (ha a h)
   ·unfold rG
    rw[aGB];intro a h;simpa using ha a h
   ·rw[aHY]
    intro a h;exact(qE (ha a h)).symm
  rcases tri e.1 k with hk|hk|hk
  ·have e1:nG (e::L) k=e::nG L k:=by unfold nG;rw[eM uJu]
   have e2:rG (e::L) k=rG L k:=by unfold rG;rw[dV (by simp[rQ hk])]
   have e3:atE (e::L) k=atE L k:=by unfold atE jB;rw[List.find?_cons_of_neg (by simp[qE hk])]
   rw[e1,e2,e3,aP,<-ih]
  ·obtain⟨b1,b2,b3⟩:=Ec (fun a ha=>by rw[<-hk];exact h'.1 a ha)
   have e1:nG (e::L) k=[]:=by unfold nG at b1 ⊢;rw[dV (by simp[hk,iJ]),b1]
   have e2:rG (e::L) k=L:=by unfold rG at b2 ⊢;rw[dV (by simp[hk,iJ]),b2]
   have e3:atE (e::L) k=[e]:=by unfold atE jB;rw[List.find?_cons_of_pos uJu];simp[<-hk]
   rw[e1,e2,e3];rfl
  ·obtain⟨b1,b2,b3⟩:=Ec (fun a ha=>mD hk (h'.1 a ha))
   have e1:nG (e::L) k=[]:=by unfold nG at b1 ⊢;rw[dV (by simp[rQ hk]),b1]
   have e2:rG (e::L) k=e::L:=by unfold rG at b2 ⊢;rw[eM uJu,b2]
   have e3:atE (e::L) k=[]:=by
    unfold jB at b3;unfold atE jB;rw[List.find?_cons_of_neg (by simp[(qE hk).symm]),b3]
   rw[e1,e2,e3];rfl
theorem aFX {L:List Ent} (h:jX L) (k:ByteArray) (x:Cel):(nD L k x).length=if(jB L k).isSome=true then L.length else L.length+1:=by
 have e:=aU List.length (aFJ h k);unfold nD;rw[aB,aB]at e;rw[aB,aD];unfold atE at e;cases hg:jB L k with
 |none=>rw[hg]at e;simp at e ⊢;omega
 |some y=>rw[hg]at e;simp at e ⊢;omega
theorem aPI {L:List Ent} (h:jX L) (k:ByteArray):L.take (nG L k).length=nG L k:=
 (aU (List.take (nG L k).length) (aFJ h k)).trans nA
theorem aIf {L:List Ent} (h:jX L) (k:ByteArray):L.drop (nG L k).length=atE L k++rG L k:=
 (aU (List.drop (nG L k).length) (aFJ h k)).trans oY
theorem aL8 {L:List Ent} {k:ByteArray} (h:jB L k=none):atE L k=[]:=by unfold atE;rw[h]
theorem aGj {L:List Ent} {k:ByteArray} {x:Cel} (h:jB L k=some x):atE L k=[(k,x)]:=by unfold atE;rw[h]
theorem aIA {L:List Ent} (h:jX L) (k:ByteArray):(∀e,L[(nG L k).length]? =some e->(e.1=k↔(jB L k).isSome=true))/\((jB L k).isSome=true->∃e,L[(nG L k).length]? =some e/\e.1=k/\jB L k=some e.2):=by
 have e0:L[(nG L k).length]? =(L.drop (nG L k).length)[0]? :=by rw[List.getElem?_drop,jV]
 rw[e0,aIf h k];cases hg:jB L k with
 |none=>
  rw[aL8 hg,aT];refine⟨fun e he=> ?_,fun h=>by cases h⟩;have hm:e∈rG L k:=fK he;have:kb k<kb e.1:=by simpa using(kO.1 hm).2
  simp[(qE this).symm]
 |some y=>
  rw[aGj hg];refine⟨fun e he=> ?_,fun _=>⟨(k,y),rfl,rfl,rfl⟩⟩;have:(k,y)=e:=by simpa using he
  simp[<-this]
theorem aCS {α β:Type} {f g:α->List β}:∀{l:List α},(∀i∈l,f i=g i)->l.flatMap f=l.flatMap g
 |[],_=>rfl
 |a::l,h=>by
  rw[cC,cC,h a aZ,aCS (l:=l) fun i hi=>h i (bF _ hi)]
def chE (hs:ByteArray->Nat) (lv i:Nat) (L:List Ent):List Ent:=L.filter fun e=>decide (jD (hs e.1) lv=i)
section
variable {hs : ByteArray → Nat} {lv i : Nat} {L : List Ent} {k : ByteArray} {x : Cel}
theorem aEN {α:Type} (q r:α->Bool) (L:List α):(L.filter q).filter r=(L.filter r).filter q:=by
 rw[aIO,aIO];congr 1
 funext e
 exact Bool.and_comm _ _
theorem jX.ch (h:jX L) (hs:ByteArray->Nat) (lv i:Nat):jX (chE hs lv i L):=h.filter _
theorem aTi {e:Ent}:e∈chE hs lv i L↔e∈L/\jD (hs e.1) lv=i:=by
 unfold chE;rw[kO];simp
theorem aIm (h:jD (hs k) lv=i):chE hs lv i (nD L k x)=nD (chE hs lv i L) k x:=by
 unfold chE nD nG rG;rw[aIP,eM (by simp[h]),aEN _ (fun e:Ent=>decide (jD (hs e.1) lv=i)),aEN _ (fun e:Ent=>decide (jD (hs e.1) lv=i))]
theorem aGc (h:jD (hs k) lv≠i):chE hs lv i (aS1 L k)=chE hs lv i L:=by
 unfold chE aS1;rw[aIO];refine List.filter_congr fun e _=> ?_
 by_cases hk:e.1=k
 ·simp[hk,h]
 ·simp[hk]
theorem aGb (hr:jX L) (h:jD (hs k) lv≠i):chE hs lv i (nD L k x)=chE hs lv i L:=by
 rw[<-aGc (L:=L) h,aSk hr k];unfold chE nD;rw[aIP,aIP,dV (by simp[h])]
theorem aTQ (h:jD (hs k) lv=i):jB (chE hs lv i L) k=jB L k:=
 aJA _ fun e _ hk=>by simp[hk,h]
theorem aAC:(chE hs lv i L).length<=L.length:=List.length_filter_le _ _
theorem aL1 (hs:ByteArray->Nat) (lv:Nat):∀L:List Ent,((List.range 32).flatMap fun i=>chE hs lv i L).Perm L
 |[]=>by
  have:((List.range 32).flatMap fun i=>chE hs lv i [])=[]:=by
   rw[List.flatMap_eq_nil_iff];intro i _;rfl
  rw[this]
 |e::L=>by
  have ih:=aL1 hs lv L;have hj:=sZ (hs e.1) lv;generalize AO:jD (hs e.1) lv=j at hj;have Je:List.range 32=List.range j++(j::(List.range (31-j)).map (j+1+ ·)):=by
   rw[show(32:Nat)=(j+1)+(31-j) by omega,List.range_add,aDu];simp
  rw[Je]at ih ⊢;rw[gN,cC]at ih ⊢;have o:∀i,i≠j->chE hs lv i (e::L)=chE hs lv i L:=fun i hi=>by
   unfold chE;rw[dV (by simp[AO];exact fun h=>hi h.symm)]
  have s:chE hs lv j (e::L)=e::chE hs lv j L:=by
   unfold chE;rw[eM (by simp[AO])]
  have f1:((List.range j).flatMap fun i=>chE hs lv i (e::L))=(List.range j).flatMap fun i=>chE hs lv i L:=by
   refine aCS fun i hi=> ?_
   rw[jZ]at hi;exact o i hO
  have f2:(((List.range (31-j)).map (j+1+ ·)).flatMap fun i=>chE hs lv i (e::L))=((List.range (31-j)).map (j+1+ ·)).flatMap fun i=>chE hs lv i L:=by
   refine aCS fun i hi=> ?_
   rw[dH]at hi;obtain⟨a,_,rfl⟩:=hi;exact o _ hO
  rw[f1,f2,s,aP];exact(nB).trans (List.Perm.cons e ih)
end
theorem aEh {L M:List Ent} (hL:jX L) (hM:jX M) (h:L.Perm M):L=M:=
 h.eq_of_pairwise (fun _ _ _ _ h1 h2=>absurd h2 (rQ h1)) hL hM
end Go.Proofs.YthmfgidbcghnfaaGreatDoor
namespace Go.Proofs.YthmfgidbcghnfaaGreatDoor
open Go.RowKit
theorem qC {P:Program} {ops:Array Oper} {rest:List Oper} {o:Oper} {a:Act} {Q:Exit->Act->World->Prop} {w w':World} (fj:o.guard=none) (p x:Operand) (t t':TypeId)
  (ho:o.op=.call {callee:=.builtin .append,args:=#[p,x],argTypes:=#[t,t']}) {vp vx v':Value} (hp:a.eval p=vp) (hx:a.eval x=vx)
  (hr:∀ty,(Builtin.append_ #[t,t'] ty #[vp,vx]).run P w=.ok v' w') (h:wpList P ops Q rest (a.put o.dst v') w'):wpList P ops Q (o::rest) a w:=by
 refine gC fj fun K hK=> ?_
 unfold Oper.wp execOp;simp only[ho,resolve,invoke,builtin,eG,eZ,cR,iE,cA,gY,hp,hx,hr];exact hK _ _ h
theorem qS:(Tryz.prog.info? 125).map (fun i=>(i.zero,i.size,i.bytes))=some (some (.agg #[.int .i64 0,.int .i64 0,.slice none 0 0,.slice none 0 0]),4,64):=by kernel_rfl
theorem cV:(Tryz.prog.info? 125).map (·.size)=some 4:=by kernel_rfl
theorem jR {B:Nat} {w w':World} {row:Option Nat} (hg:w.grownBy w' row) (hB:B<=w.heap.size) (hr:∀k,row=some k->B<=k):Below B w w':=(bB B w).grown hg hB (fun k e=>hr k e)
theorem aTE (n:Nat) (hn:n<=200000) (w:World):Calls Tryz.prog 257 #[.slice none 0 0,.int .i64 (n:Int)] w fun e w'=>∃v,e=.returned v/\w'.ownsRow w.heap.size 37 4 v 0 []/\Below w.heap.size w w':=by
 by_cases h0:n=0
 ·subst h0
  go_enter Tryz.func257,Tryz.ntmps257;exact Ah8
 ·obtain⟨i,hi,hz,h1,h2⟩:=dO vF
  have cr:∀ty,(Builtin.append_ #[123,3] ty #[.slice none 0 0,.int .i64 (n:Int)]).run Tryz.prog w=.ok (.slice (some ⟨w.heap.size,0,none⟩) n (grownCap w n 0 37)) (w.drew.alloc (.cells (Builtin.zeroCells (.agg (aL gO):Value).cells n++Builtin.zeroCells (.agg (aL gO):Value).cells (grownCap w n 0 37-n)) 37)):=fun ty=>by
   have h:=yS (P:=Tryz.prog) w 123 3 ty 37 i (.agg (aL gO)) .i64 .i64 Tryz.underlying123 Tryz.underlying3 hi hz none 0 0 [] (aGx w.drew i.size 0 0 0) n hO hO hO hO uRx
    uJy
   simpa using h
  have Ed:=grownCap_ge w n 0 37;have Bk:=aIJ w n 0 37 uCx;obtain⟨G,hG⟩:∃G,G=grownCap w n 0 37:=⟨_,rfl⟩
  rw[<-hG]at cr Ed Bk;have AP:(G:Int)<=9223372036854775807:=by unfold maxLen at Bk;omega
  have Dh:(n:Int)<=200000:=by omega
  have Lc:(0:Int)<n:=by omega
  have Ee:=iH cr;have Ef:=iH Ed;have HG2:=iH Bk;have HN:=iH hn;clear cr Ed Bk h0 hG hn;go_enter Tryz.func257,Tryz.ntmps257;exact Ad1
theorem aTR {α:Type} {enc:α->List Value} (bq:∀x,∀u∈enc x,u.oneCell'=true) (w:World) {S:Nat->Prop} (B:Nat) (ls:List (Value×List α))
  (bt:∀k (hk:k<ls.length),w.cell? ⟨B,k,none⟩=some ls[k].1) (ev:∀p∈ls,bY S w 4 p.1 (en enc p.2) p.2.length) (hN:(fB ls ls.length).length<=100000) (hl:ls.length<=1000):
  Calls Tryz.prog 213 #[.slice (some ⟨B,0,none⟩) ls.length ls.length] w fun e w'=>∃v,e=.returned v/\bY (fun g=>w.heap.size<=g) w' 4 v (en enc (fB ls ls.length)) (fB ls ls.length).length/\Below w.heap.size w w':=by
 obtain⟨i,hi,hz,h1,h2⟩:=dO vF;have HS:=iH ev;have HC:=iH bt;have HN:=iH hN;have HI:=iH (And.intro hi (And.intro hz (And.intro h1 h2)));clear ev bt hi hz h1 h2 hN;go_enter Tryz.func213,Tryz.ntmps213;go_wp2_with fail
 go_loopw [3,11] (fun n i wr=>∃k:Nat,k<=ls.length/\i=.int .i64 k/\n=.int .i64 ((fB ls k).length:Nat)/\w=wr) (fun _ i _=>ls.length-(intOf i).toNat)
 case atStart=>exact⟨0,aS _,rfl,rfl,rfl⟩
 case round=>
  obtain⟨k,hk,rfl,rfl,rfl⟩:=hrel;by_cases hlt:k<ls.length
  ·exact Aa2
  ·obtain rfl:k=ls.length:=by omega
   obtain⟨N,hN⟩:∃N,N=(fB ls ls.length).length:=⟨_,rfl⟩
   have zi:=iH (aTE N uJz w);have mu:=iH hN;rw[<-hN];clear hN;go_wp2_with (go_at_call 257;refine zi.out.mono ?_;rintro e w1 ⟨v1,rfl,Jf,af⟩;have Jg:=iH Jf;have HB1:=iH af;clear Jf af)
   go_loopw [6,27] (fun nv i wr=>∃k:Nat,k<=ls.length/\i=.int .i64 k/\Hid (wr.ownsRow w.heap.size 37 4 nv (fB ls k).length (en enc (fB ls k)))/\Hid (Below w.heap.size w wr)) (fun _ i _=>ls.length-(intOf i).toNat)
   case atStart=>exact⟨0,aS _,rfl,Jg,HB1⟩
   case round=>
    clear Jg HB1;obtain⟨k,hk,rfl,HO,HB⟩:=hrel;by_cases hlt:k<ls.length
    ·have hc:=(HB.out.cell (p:=⟨B,k,none⟩) (aO _ _ (HC.out k hlt))).trans (HC.out k hlt)
     have vd:=iH ((HS.out _ (aX hlt)).later HB.out);have dx:=uH (ls:=ls) (k+1) hlt (aA _);have HS2:=iH (pJ hlt);have fw:Hid ((fB ls k).length+ls[k].2.length<=100000):=by show _<=_;rw[HS2.out,aB]at dx;have:=HN.out;omega
     clear dx;go_wp2_with (refine iP rfl _ _ 123 rfl w.heap.size 37 i (.agg (aL gO)) 40 Tryz.underlying123 HI.out.1 HI.out.2.1 HI.out.2.2.1 HI.out.2.2.2 rfl uAv rfl HO.out rfl vd.out (uD bq _) uNy uNu HB.out.size ?_;intro v2 w2 xu kx;have Eg:=iH xu;have aq:=iH (HB.out.trans (jR kx HB.out.size (vM HO.out)));clear xu kx)
     exact Ad4
    ·exact Ai3
theorem aTO (w:World) {S:Nat->Prop} {v:Value} {cs:List Value} {n:Nat} (hv:dE S w 37 4 v cs n) (h0:0<n) (bq:∀u∈cs,u.oneCell'=true) (hn:n<=4096):
  Calls Tryz.prog 284 #[v] w fun e w'=>∃g c,e=.returned (.slice (some ⟨g,0,none⟩) n c)/\n<=c/\w.heap.size<=g/\∃aj,w'.heap[g]? =some (.cells aj 37 (0,0))/\c*4=aj.size/\(∀(j:Nat) (u:Value),cs[j]? =some u->aj[j]? =some u)/\Below w.heap.size w w':=by
 obtain⟨i,hi,hz,h1,h2⟩:=dO vF;have HV:=iH hv;have HL:=iH hv.1;have HI:=iH (And.intro hi (And.intro hz (And.intro h1 h2)));obtain⟨g,c,aj,fr,rfl,hc,hS,hg,ep⟩:=hv.pos h0;have HN:=iH hn;have H0:=iH h0;have xw:=iH bq;clear hv hi hz h1 h2 hc hS hg ep hn h0 bq;have xx:=fun w=>aLt ⟨g,0,none⟩ n c w
 go_enter Tryz.func284,Tryz.ntmps284;go_wp2_with (refine iP rfl _ _ 123 rfl w.heap.size 37 i (.agg (aL gO)) 40 Tryz.underlying123 HI.out.1 HI.out.2.1 HI.out.2.2.1 HI.out.2.2.2 rfl uAv rfl (oO (base:=w.heap.size) (e:=37) (size:=4) w #[] 0 (aA _) uCx rfl) rfl (HV.out.cut.later (Below.newly' _ _)) xw.out uNz uJz uAy ?_;intro v2 w2 xu kx;have Eg:=iH xu;have HG2:=iH kx;clear xu kx)
 go_ret;obtain⟨hl,⟨e,h3⟩|⟨g2,c2,Eh,e,hb,hg,hc,h3,h4,h5⟩⟩:=Eg.out
 ·have:=H0.out;omega
 ·exact Ac0
theorem aRO (n:Nat) (hn:n<=200000) (w:World):Calls Tryz.prog 276 #[.slice none 0 0,.int .i64 (n:Int)] w fun e w'=>∃v,e=.returned v/\w'.ownsRow w.heap.size 125 4 v 0 []/\Below w.heap.size w w':=by
 by_cases h0:n=0
 ·subst h0
  go_enter Tryz.func276,Tryz.ntmps276;exact Ah8
 ·obtain⟨i,hi,hz,h1,h2⟩:=dO qS
  have cr:∀ty,(Builtin.append_ #[122,3] ty #[.slice none 0 0,.int .i64 (n:Int)]).run Tryz.prog w=.ok (.slice (some ⟨w.heap.size,0,none⟩) n (grownCap w n 0 125)) (w.drew.alloc (.cells (Builtin.zeroCells (.agg #[.int .i64 0,.int .i64 0,.slice none 0 0,.slice none 0 0]:Value).cells n++Builtin.zeroCells (.agg #[.int .i64 0,.int .i64 0,.slice none 0 0,.slice none 0 0]:Value).cells (grownCap w n 0 125-n)) 125)):=fun ty=>by
   have h:=yS (P:=Tryz.prog) w 122 3 ty 125 i (.agg #[.int .i64 0,.int .i64 0,.slice none 0 0,.slice none 0 0]) .i64 .i64 Tryz.underlying122 Tryz.underlying3 hi hz none 0 0 [] (aGx w.drew i.size 0 0 0) n hO hO hO hO uRx
    uJy
   simpa using h
  have Ed:=grownCap_ge w n 0 125;have Bk:=aIJ w n 0 125 uCx;obtain⟨G,hG⟩:∃G,G=grownCap w n 0 125:=⟨_,rfl⟩
  rw[<-hG]at cr Ed Bk;have AP:(G:Int)<=9223372036854775807:=by unfold maxLen at Bk;omega
  have Dh:(n:Int)<=200000:=by omega
  have Lc:(0:Int)<n:=by omega
  have Ee:=iH cr;have Ef:=iH Ed;have HG2:=iH Bk;have HN:=iH hn;clear cr Ed Bk h0 hG hn;go_enter Tryz.func276,Tryz.ntmps276;exact Ad1
theorem aSc {α:Type} {enc:α->List Value} (bq:∀x,∀u∈enc x,u.oneCell'=true) (w:World) {S:Nat->Prop} (B:Nat) (ls:List (Value×List α))
  (bt:∀k (hk:k<ls.length),w.cell? ⟨B,k,none⟩=some ls[k].1) (ev:∀p∈ls,bY S w 4 p.1 (en enc p.2) p.2.length) (hN:(fB ls ls.length).length<=100000) (hl:ls.length<=1000):
  Calls Tryz.prog 256 #[.slice (some ⟨B,0,none⟩) ls.length ls.length] w fun e w'=>∃v,e=.returned v/\bY (fun g=>w.heap.size<=g) w' 4 v (en enc (fB ls ls.length)) (fB ls ls.length).length/\Below w.heap.size w w':=by
 obtain⟨i,hi,hz,h1,h2⟩:=dO qS;have HS:=iH ev;have HC:=iH bt;have HN:=iH hN;have HI:=iH (And.intro hi (And.intro hz (And.intro h1 h2)));clear ev bt hi hz h1 h2 hN;go_enter Tryz.func256,Tryz.ntmps256;go_wp2_with fail
 go_loopw [3,11] (fun n i wr=>∃k:Nat,k<=ls.length/\i=.int .i64 k/\n=.int .i64 ((fB ls k).length:Nat)/\w=wr) (fun _ i _=>ls.length-(intOf i).toNat)
 case atStart=>exact⟨0,aS _,rfl,rfl,rfl⟩
 case round=>
  obtain⟨k,hk,rfl,rfl,rfl⟩:=hrel;by_cases hlt:k<ls.length
  ·exact Aa2
  ·obtain rfl:k=ls.length:=by omega
   obtain⟨N,hN⟩:∃N,N=(fB ls ls.length).length:=⟨_,rfl⟩
   have zi:=iH (aRO N uJz w);have mu:=iH hN;rw[<-hN];clear hN;go_wp2_with (go_at_call 276;refine zi.out.mono ?_;rintro e w1 ⟨v1,rfl,Jf,af⟩;have Jg:=iH Jf;have HB1:=iH af;clear Jf af)
   go_loopw [6,27] (fun nv i wr=>∃k:Nat,k<=ls.length/\i=.int .i64 k/\Hid (wr.ownsRow w.heap.size 125 4 nv (fB ls k).length (en enc (fB ls k)))/\Hid (Below w.heap.size w wr)) (fun _ i _=>ls.length-(intOf i).toNat)
   case atStart=>exact⟨0,aS _,rfl,Jg,HB1⟩
   case round=>
    clear Jg HB1;obtain⟨k,hk,rfl,HO,HB⟩:=hrel;by_cases hlt:k<ls.length
    ·have hc:=(HB.out.cell (p:=⟨B,k,none⟩) (aO _ _ (HC.out k hlt))).trans (HC.out k hlt)
     have vd:=iH ((HS.out _ (aX hlt)).later HB.out);have dx:=uH (ls:=ls) (k+1) hlt (aA _);have HS2:=iH (pJ hlt);have fw:Hid ((fB ls k).length+ls[k].2.length<=100000):=by show _<=_;rw[HS2.out,aB]at dx;have:=HN.out;omega
     clear dx;go_wp2_with (refine iP rfl _ _ 122 rfl w.heap.size 125 i (.agg #[.int .i64 0,.int .i64 0,.slice none 0 0,.slice none 0 0]) 64 Tryz.underlying122 HI.out.1 HI.out.2.1 HI.out.2.2.1 HI.out.2.2.2 rfl uAv rfl HO.out rfl vd.out (uD bq _) uNy uNu HB.out.size ?_;intro v2 w2 xu kx;have Eg:=iH xu;have aq:=iH (HB.out.trans (jR kx HB.out.size (vM HO.out)));clear xu kx)
     exact Ad4
    ·exact Ai3
theorem aS7 (w:World) {S:Nat->Prop} {v:Value} {cs:List Value} {n:Nat} (hv:dE S w 125 4 v cs n) (h0:0<n) (bq:∀u∈cs,u.oneCell'=true) (hn:n<=4096):
  Calls Tryz.prog 285 #[v] w fun e w'=>∃g c,e=.returned (.slice (some ⟨g,0,none⟩) n c)/\n<=c/\w.heap.size<=g/\∃aj,w'.heap[g]? =some (.cells aj 125 (0,0))/\c*4=aj.size/\(∀(j:Nat) (u:Value),cs[j]? =some u->aj[j]? =some u)/\Below w.heap.size w w':=by
 obtain⟨i,hi,hz,h1,h2⟩:=dO qS;have HV:=iH hv;have HL:=iH hv.1;have HI:=iH (And.intro hi (And.intro hz (And.intro h1 h2)));obtain⟨g,c,aj,fr,rfl,hc,hS,hg,ep⟩:=hv.pos h0;have HN:=iH hn;have H0:=iH h0;have xw:=iH bq;clear hv hi hz h1 h2 hc hS hg ep hn h0 bq;have xx:=fun w=>yG ⟨g,0,none⟩ n c w
 go_enter Tryz.func285,Tryz.ntmps285;go_wp2_with (refine iP rfl _ _ 122 rfl w.heap.size 125 i (.agg #[.int .i64 0,.int .i64 0,.slice none 0 0,.slice none 0 0]) 64 Tryz.underlying122 HI.out.1 HI.out.2.1 HI.out.2.2.1 HI.out.2.2.2 rfl uAv rfl (oO (base:=w.heap.size) (e:=125) (size:=4) w #[] 0 (aA _) uCx rfl) rfl (HV.out.cut.later (Below.newly' _ _)) xw.out uNz uJz uAy ?_;intro v2 w2 xu kx;have Eg:=iH xu;have HG2:=iH kx;clear xu kx)
 go_ret;obtain⟨hl,⟨e,h3⟩|⟨g2,c2,Eh,e,hb,hg,hc,h3,h4,h5⟩⟩:=Eg.out
 ·have:=H0.out;omega
 ·exact Ac0
theorem aQr {α:Type} {enc:α->List Value} (cf:∀x,(enc x).length=4) (bq:∀x,∀u∈enc x,u.oneCell'=true) (w:World) {S:Nat->Prop} {v:Value} {xs:List α} {n i:Nat} (x:α) (hv:dE S w 125 4 v (en enc xs) n) (hi:i<n) (hn:n<=4096) (cx:Array Value) (Hf:cx.toList=enc x):
  Calls Tryz.prog 283 #[v,.int .i64 (i:Int),.agg cx] w fun e w'=>∃v',e=.returned v'/\dE (fun g=>w.heap.size<=g) w' 125 4 v' (en enc (xs.set i x)) n/\Below w.heap.size w w':=by
 obtain⟨w0,Ck⟩:∃w0,w.alloc (.cells cx 125)=w0:=⟨_,rfl⟩
 have mf:Below w.heap.size w w0:=by rw[<-Ck];exact Below.newly' _ _
 have uj:w0.heap[w.heap.size]? =some (.cells cx 125 (0,0)):=by rw[<-Ck];exact aC _ _
 have s8:w0.heap.size=w.heap.size+1:=by rw[<-Ck];simp
 have de:cx.size=4:=by rw[<-bM,Hf,cf]
 have hall:cx.all (·.oneCell')=true:=by
  exact Ak0
 have s9:=iH (aS7 w0 (hv.later mf) hO (uD bq xs) hn);have HL:Hid (xs.length=n):=uPz
 have HI:=iH hi;have Pm:(i:Int)<n:=by omega
 have nb:(n:Int)<=4096:=by omega
 have Ei:=iH uj;have tb:=iH mf;have Pn:=iH s8;have nm:=iH de;have mh:=iH hall;have Di:=iH Hf;obtain⟨a,c,rfl,_⟩:=hv.shape;clear hv hi hn mf uj s8 de hall Hf;go_enter Tryz.func283,Tryz.ntmps283;go_upto_region 1 with fail
 clear Ck;go_wp2_with (first
  |(go_at_call 285;refine s9.out.mono ?_;rintro e w1 ⟨g1,c1,rfl,dr,Ej,Ld,zj,al,Ek,af⟩;have bd:=iH dr;have Ef:=iH zj;have HS1:=iH al;have Le:=iH Ek;have HX1:=iH ((af.block _ (by have:=Pn.out;omega)).trans Ei.out);have HB1:=iH af;have xy:=iH Ej;clear dr Ej zj al Ek af)
  |(refine aW rfl 125 _ rfl w.heap.size rfl 125 _ _ _ HX1.out Tryz.underlying125 rfl (by rw[nm.out];exact cV) ?_)
  |(refine vE rfl 125 _ _ rfl g1 (i*4) rfl cx rfl 125 Ld Ef.out (by rw[nm.out];exact cV) uLz mh.out ?_;intro w3 c3 h3 gi zk k3;have je:=iH h3;have xz:=iH zk;have gb:=iH k3;clear h3 gi zk k3))
 go_ret;have hi:=HI.out;have hL:=HL.out;have zl:=Pn.out;refine⟨_,rfl,⟨by rw[lQ cf,fD];omega,.inr ⟨by omega,g1,c1,_,(0,0),rfl,bd.out,by have:=xy.out;omega,je.out,fun j u hu=> ?_⟩⟩,(tW tb.out HB1.out).trans (gb.out.below (by have:=xy.out;omega))⟩;have hj:=(List.getElem?_eq_some_iff.1 hu).1;rw[lQ cf,fD]at hj;rw[xz.out j,nm.out];have ej:j=j/4*4+j % 4:=by omega
 obtain⟨y,hy⟩:∃y,(xs.set i x)[j/4]? =some y:=⟨_,List.getElem?_eq_getElem (by rw[fD];omega)⟩
 rw[ej,zT cf _ _ _ y hy hO]at hu;rw[List.getElem?_set]at hy;by_cases e:i=j/4
 ·exact Ag7
 ·exact Ai9
theorem aSL {α:Type} {enc:α->List Value} (cf:∀x,(enc x).length=4) (bq:∀x,∀u∈enc x,u.oneCell'=true) (w:World) {S:Nat->Prop} {v:Value} {xs:List α} {n i:Nat} (x:α) (hv:dE S w 37 4 v (en enc xs) n) (hi:i<n) (hn:n<=4096) (cx:Array Value) (Hf:cx.toList=enc x):
  Calls Tryz.prog 282 #[v,.int .i64 (i:Int),.agg cx] w fun e w'=>∃v',e=.returned v'/\dE (fun g=>w.heap.size<=g) w' 37 4 v' (en enc (xs.set i x)) n/\Below w.heap.size w w':=by
 obtain⟨w0,Ck⟩:∃w0,w.alloc (.cells cx 37)=w0:=⟨_,rfl⟩
 have mf:Below w.heap.size w w0:=by rw[<-Ck];exact Below.newly' _ _
 have uj:w0.heap[w.heap.size]? =some (.cells cx 37 (0,0)):=by rw[<-Ck];exact aC _ _
 have s8:w0.heap.size=w.heap.size+1:=by rw[<-Ck];simp
 have de:cx.size=4:=by rw[<-bM,Hf,cf]
 have hall:cx.all (·.oneCell')=true:=by
  exact Ak0
 have s9:=iH (aTO w0 (hv.later mf) hO (uD bq xs) hn);have HL:Hid (xs.length=n):=uPz
 have HI:=iH hi;have Pm:(i:Int)<n:=by omega
 have nb:(n:Int)<=4096:=by omega
 have Ei:=iH uj;have tb:=iH mf;have Pn:=iH s8;have nm:=iH de;have mh:=iH hall;have Di:=iH Hf;obtain⟨a,c,rfl,_⟩:=hv.shape;clear hv hi hn mf uj s8 de hall Hf;go_enter Tryz.func282,Tryz.ntmps282;go_upto_region 1 with fail
 clear Ck;go_wp2_with (first
  |(go_at_call 284;refine s9.out.mono ?_;rintro e w1 ⟨g1,c1,rfl,dr,Ej,Ld,zj,al,Ek,af⟩;have bd:=iH dr;have Ef:=iH zj;have HS1:=iH al;have Le:=iH Ek;have HX1:=iH ((af.block _ (by have:=Pn.out;omega)).trans Ei.out);have HB1:=iH af;have xy:=iH Ej;clear dr Ej zj al Ek af)
  |(refine aW rfl 37 _ rfl w.heap.size rfl 37 _ _ _ HX1.out Tryz.underlying37 rfl (by rw[nm.out];exact aF) ?_)
  |(refine vE rfl 37 _ _ rfl g1 (i*4) rfl cx rfl 37 Ld Ef.out (by rw[nm.out];exact aF) uLz mh.out ?_;intro w3 c3 h3 gi zk k3;have je:=iH h3;have xz:=iH zk;have gb:=iH k3;clear h3 gi zk k3))
 go_ret;have hi:=HI.out;have hL:=HL.out;have zl:=Pn.out;refine⟨_,rfl,⟨by rw[lQ cf,fD];omega,.inr ⟨by omega,g1,c1,_,(0,0),rfl,bd.out,by have:=xy.out;omega,je.out,fun j u hu=> ?_⟩⟩,(tW tb.out HB1.out).trans (gb.out.below (by have:=xy.out;omega))⟩;have hj:=(List.getElem?_eq_some_iff.1 hu).1;rw[lQ cf,fD]at hj;rw[xz.out j,nm.out];have ej:j=j/4*4+j % 4:=by omega
 obtain⟨y,hy⟩:∃y,(xs.set i x)[j/4]? =some y:=⟨_,List.getElem?_eq_getElem (by rw[fD];omega)⟩
 rw[ej,zT cf _ _ _ y hy hO]at hu;rw[List.getElem?_set]at hy;by_cases e:i=j/4
 ·exact Ag7
 ·exact Ai9
abbrev Sc:=Int×Int×List UInt8
def iB (s:Sc):Int:=
 if s.1<0\/3<s.1 then 3
 else if(s.1=0\/s.1=3)/\s.2.1≠0 then 1
 else if s.1≠3/\s.2.2≠[]then 1
 else if s.1=1/\s.2.1≠0/\s.2.1≠1 then 4
 else 0
def yM (c:UInt8):List UInt8:=if c=0 then[0,255]else[c]
def yL (l:List UInt8):List UInt8:=l.flatMap yM
def pW (s:Sc):List UInt8:=
 if iB s≠0 then[]else if s.1=0 then[1]else if s.1=1 then[2,bt8 s.2.1]else if s.1=2 then 3::wK s.2.1 else 4::(yL s.2.2++[0,0])
theorem xM (s:Sc) (h:iB s=0):s=(0,0,[])\/s=(1,0,[])\/s=(1,1,[])\/(∃n,s=(2,n,[]))\/∃t,s=(3,0,t):=by
 obtain⟨k,n,t⟩:=s;unfold iB at h;simp only at h;split at h
 ·cases h
 rename_i h1
 split at h
 ·cases h
 rename_i h2
 split at h
 ·cases h
 rename_i h3
 split at h
 ·cases h
 rename_i h4
 have hk:k=0\/k=1\/k=2\/k=3:=by omega
 rcases hk with rfl|rfl|rfl|rfl
 ·have hn:n=0:=by omega
  have ht:t=[]:=by
   rcases aBJ (t=[])with h|h
   ·exact h
   ·exact absurd ⟨by decide,h⟩ h3
  subst hn ht;exact .inl rfl
 ·have ht:t=[]:=by
   rcases aBJ (t=[])with h|h
   ·exact h
   ·exact absurd ⟨by decide,h⟩ h3
  subst ht;have hn:n=0\/n=1:=by omega
  rcases hn with rfl|rfl
  ·exact .inr (.inl rfl)
  ·exact .inr (.inr (.inl rfl))
 ·have ht:t=[]:=by
   rcases aBJ (t=[])with h|h
   ·exact h
   ·exact absurd ⟨by decide,h⟩ h3
  subst ht;exact .inr (.inr (.inr (.inl ⟨n,rfl⟩)))
 ·have hn:n=0:=by omega
  subst hn;exact .inr (.inr (.inr (.inr ⟨t,rfl⟩)))
theorem aPT:iB (0,0,[])=0:=by decide
theorem aMS:iB (1,0,[])=0:=by decide
theorem aPQ:iB (1,1,[])=0:=by decide
theorem aL0 (n:Int):iB (2,n,[])=0:=by simp[iB]
theorem aPR (t:List UInt8):iB (3,0,t)=0:=by simp[iB]
theorem aHM:pW (0,0,[])=[1]:=by decide
theorem aED:pW (1,0,[])=[2,0]:=by decide+kernel
theorem aHK:pW (1,1,[])=[2,1]:=by decide+kernel
theorem aKE (n:Int):pW (2,n,[])=3::wK n:=by simp[pW,aL0]
theorem aHL (t:List UInt8):pW (3,0,t)=4::(yL t++[0,0]):=by simp[pW,aPR]
theorem aKF (s:Sc) (h:¬iB s=0):pW s=[]:=by simp[pW,h]
theorem aPL (c:UInt8) (t:List UInt8):yL (c::t)=yM c++yL t:=by simp[yL]
theorem aKY (t:List UInt8):(yL t).length<=2*t.length:=by
 induction t with
 |nil=>simp[yL]
 |cons c t ih=>
  rw[aPL,aB,aD];have:(yM c).length<=2:=by unfold yM;split<;>simp
  omega
theorem aRG (s:Sc):(pW s).length<=2*s.2.2.length+9:=by
 by_cases hc:iB s=0
 ·rcases xM s hc with rfl|rfl|rfl|⟨n,rfl⟩|⟨t,rfl⟩
  ·rw[aHM];simp
  ·rw[aED];simp
  ·rw[aHK];simp
  ·rw[aKE];simp[aDh]
  ·rw[aHL]
   have:=aKY t;simp;omega
 ·rw[aKF s hc];simp
theorem aHp (a b:UInt8) (l r:List UInt8) (h:a<b):jA (a::l) (b::r)= -1:=(vN _ _).2 (tI.2 (.inl h))
theorem aOn (a:UInt8) (l r:List UInt8):jA (a::l) (a::r)=jA l r:=by
 unfold jA;have h1:(a::l=a::r)↔l=r:=by simp
 have h2:(a::l<a::r)↔l<r:=by
  exact Ah6
 simp only[h1,h2]
theorem aPM (a b:UInt8) (l r:List UInt8) (h:¬a=b):rR (a::l) (b::r)=0:=by simp[rR,h]
theorem aPN (a:UInt8) (l r:List UInt8):rR (a::l) (a::r)=rR l r+1:=by simp[rR]
def aIG (k l:List UInt8) (o:Int):Prop:=rR k l<k.length/\rR k l<l.length/\∀x y,jA (k++x) (l++y)=o
theorem aIG.cons {k l:List UInt8} {o:Int} (h:aIG k l o) (c:UInt8):aIG (c::k) (c::l) o:=by
 refine⟨?_,?_,fun x y=> ?_⟩
 ·rw[aPN,aD];have:=h.1;omega
 ·rw[aPN,aD];have:=h.2.1;omega
 ·rw[aP,aP,aOn];exact h.2.2 x y
theorem aIG.lt {a b:UInt8} (h:a<b) (k l:List UInt8):aIG (a::k) (b::l) (-1):=by
 have bn:¬a=b:=fun e=>by subst e;exact absurd h (aDq _)
 exact⟨by rw[aPM _ _ _ _ bn];simp,by rw[aPM _ _ _ _ bn];simp,fun x y=>aHp _ _ _ _ h⟩
theorem aOf {j:Nat} (hj:j<32):(2:Int)^j % 4294967296=((2^j:Nat):Int):=by
 have h:2^j<4294967296:=uT (show 1<2 by decide) hj;have e:((2:Int)^j)=((2^j:Nat):Int):=by simp
 rw[e];generalize 2^j=m at h;omega
theorem aAd (j:Nat) (hj:j<32) (w:World):Calls Tryz.prog 219 #[.int .i64 (j:Int)] w fun e w'=>e=.returned (.int .u32 ((2^j:Nat):Int))/\w'=w:=by
 have hp:=iH (aOf hj);have h1:(j:Int)<32:=by omega
 have h2:0<=(j:Int):=by omega
 go_enter Tryz.func219,Tryz.ntmps219;go_wp2
 go_ret;exact⟨aU (fun x=>Ending.returned (.int .u32 x)) hp.out,rfl⟩
theorem aJn (x:Int) (h0:0<=x) (h1:x<4294967296):bits .and .u32 x 255=x % 256:=
 bits_mask .u32 32 uAv (fun n a c=>by rw[aNi];simp only[Int.reducePow]at c;omega) 8 uAv x h0 (by simp only[Int.reducePow];omega)
theorem aR9:∀n:Fin 256,Lib.pop8 (n.val:Int)=(rkN n.val 8:Int):=by decide+kernel
theorem aBu (n:Nat) (h:n<256):Lib.pop8 (n:Int)=(rkN n 8:Int):=aR9 ⟨n,h⟩
theorem aQT (x:Nat) (hx:x<4294967296) (w:World):Calls Tryz.prog 277 #[.int .u32 (x:Int)] w fun e w'=>e=.returned (.int .i64 (rkN x 32:Nat))/\∃n,w'=w.drewN n:=by
 have h1:0<=(x:Int):=by omega
 have h2:(x:Int)<4294967296:=by omega
 have h3:0<=(x:Int)/16777216:=by omega
 have h4:(x:Int)/16777216<=255:=by omega
 have h5:0<=(x:Int)/65536:=by omega
 have h6:0<=(x:Int)/256:=by omega
 have hv:Hid ((Lib.pop8 ((x:Int)/16777216)+Lib.pop8 ((x:Int)/65536 % 256)+Lib.pop8 ((x:Int)/256 % 256)+Lib.pop8 ((x:Int) % 256)) % 256=((rkN x 32:Nat):Int)):=by
  show _=_;have q1:Lib.pop8 ((x:Int)/16777216)=((rkN (x/16777216) 8:Nat):Int):=aBu (x/16777216) hO;have q2:Lib.pop8 ((x:Int)/65536 % 256)=((rkN (x/65536 % 256) 8:Nat):Int):=aBu (x/65536 % 256) hO;have q3:Lib.pop8 ((x:Int)/256 % 256)=((rkN (x/256 % 256) 8:Nat):Int):=aBu (x/256 % 256) hO;have q4:Lib.pop8 ((x:Int) % 256)=((rkN (x % 256) 8:Nat):Int):=aBu (x % 256) hO;have g1:=aH9 (x/16777216) 8;have g2:=aH9 (x/65536 % 256) 8;have g3:=aH9 (x/256 % 256) 8;have g4:=aH9 (x % 256) 8;rw[q1,q2,q3,q4,aO5];omega
 have m1:=aJn ((x:Int)/65536) hO hO;have m2:=aJn ((x:Int)/256) hO hO;have m3:=aJn (x:Int) hO hO;go_enter Tryz.func277,Tryz.ntmps277;go_upto_region 1 with fail
 generalize hT:(ByteArray.mk (List.toArray _):ByteArray)=t;obtain rfl:Lib.pop8tab=t:=by rw[<-hT];decide+kernel
 clear hT;go_quiet (fail)
 go_wp2
 go_ret;exact⟨aU (fun v=>Ending.returned (.int .i64 v)) hv.out,nq,rfl⟩
theorem aH1 (x:Nat) (hx:x<4294967296) (w:World):Calls Tryz.prog 260 #[.int .u32 (x:Int)] w fun e w'=>e=.returned (.int .i64 (rkN x 32:Nat))/\∃n,w'=w.drewN n:=by
 go_enter Tryz.func260,Tryz.ntmps260;go_wp2_with (go_at_call 277;refine(aQT x hx _).mono ?_;rintro e w1 ⟨rfl,n,rfl⟩)
 go_ret;exact⟨rfl,n,rfl⟩
def iF (w:World):Prop:=∀j,j<32->w.cell? ⟨4,j,none⟩=some (.int .u8 (Lib.deBruijn32tab.getD j 0:Nat))
theorem iF.below {w w':World} (h:iF w) (hb:Below w.heap.size w w'):iF w':=fun j hj=>(hb.cell (p:=⟨4,j,none⟩) (aO w _ (h j hj))).trans (h j hj)
theorem aT0 (x a:Nat) (hx:x<4294967296) (uj:x≠0) (Ab:x&&&(4294967296-x)=a):
  bits BinOp.and IntKind.u32 (x:Int) (-(x:Int) % 4294967296)*125613361 % 4294967296/134217728=((a*125613361 % 4294967296/134217728:Nat):Int):=by
 have e1: -(x:Int) % 4294967296=((4294967296-x:Nat):Int):=by omega
 rw[e1,aGn x _ hx,Ab];omega
theorem aDH (x k Wc:Nat) (w:World) (uj:((x:Int)==0)=false)
  (key:bits BinOp.and IntKind.u32 (x:Int) (-(x:Int) % 4294967296)*125613361 % 4294967296/134217728=(Wc:Int))
  (hi:Wc<32) (hk:k<32) (gr:w.cell? ⟨4,Wc,none⟩=some (.int .u8 k)):
  Calls Tryz.prog 232 #[.int .u32 x] w fun e w'=>e=.returned (.int .i64 k)/\w'=w:=by
 go_enter Tryz.func232,Tryz.ntmps232;go_wp2_with (simp only[key])
 go_ret;exact⟨rfl,rfl⟩
theorem aNU (x:Nat) (hx:x<4294967296) (uj:x≠0) (w:World) (hT:iF w):
  Calls Tryz.prog 232 #[.int .u32 x] w fun e w'=>e=.returned (.int .i64 (Lib.ctz 32 x:Nat))/\w'=w:=by
 obtain⟨Ab,hk⟩:=Lib.lowest_bit 32 x uj hx;obtain⟨hi,Lf⟩:=Lib.deBruijn32_at _ hk;have gr:=hT _ hi;rw[Lf]at gr;exact aDH x _ _ w uCy (aT0 x _ hx uj Ab) hi hk gr
end Go.Proofs.YthmfgidbcghnfaaGreatDoor
