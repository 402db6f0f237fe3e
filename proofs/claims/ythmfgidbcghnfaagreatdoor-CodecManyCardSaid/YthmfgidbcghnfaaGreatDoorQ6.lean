import Derived.Test.YthmfgidbcghnfaaGreatDoorQ0
import Derived.Test.YthmfgidbcghnfaaGreatDoorQ5
set_option maxRecDepth 1000000
set_option maxHeartbeats 8000000
set_option linter.unusedSimpArgs false
namespace Go.Proofs.YthmfgidbcghnfaaGreatDoor
open Go.RowKit
structure Cel where
 k:Int
 n:Int
 t:ByteArray
 p:Option Addr
def gO:Cel:=⟨0,0,⟨#[]⟩,none⟩
abbrev aL (x:Cel):Array Value:=#[.int .i64 x.k,.int .i64 x.n,.string x.t,.pointer x.p]
def enV (x:Cel):List Value:=[.int .i64 x.k,.int .i64 x.n,.string x.t,.pointer x.p]
theorem xI (x:Cel):(enV x).length=4:=rfl
theorem aKT (x:Cel):∀u∈enV x,u.oneCell'=true:=by
 intro u hu;simp only[enV,bL,gL,uS]at hu;rcases hu with rfl|rfl|rfl|rfl<;>rfl
theorem cE (x:Cel):(aL x).all (·.oneCell')=true:=by simp[Value.oneCell']
theorem vF:(Tryz.prog.info? 37).map (fun i=>(i.zero,i.size,i.bytes))=some (some (.agg (aL gO)),4,40):=by kernel_rfl
theorem aF:(Tryz.prog.info? 37).map (·.size)=some 4:=by kernel_rfl
abbrev ivV (l:List Cel):List Value:=en enV l
open Go.Deep
def qB (x:Int×Int×Bool):List Value:=[.int .u8 x.1,.int .u8 x.2.1,.bool x.2.2]
def zQ {H:Type} (x:Int×Int×Bool):DataW H:=.agg [.lit (.int .u8 x.1),.lit (.int .u8 x.2.1),.lit (.bool x.2.2)]
theorem aDM {H:Type} {enc:TypeId×Value->H} {P:Program} {w:World} {base:Nat} {sp:Nat->Bool} {held:Bool} {fuel:Nat} {t e b s:TypeId} {f0 f1 f2:Field} {n:Nat} {cs:List Value} {zs:List (Int×Int×Bool)} {p:List MemPlace}
  (ht:P.underlying t=some (.array n e)) (he:P.underlying e=some (.struct #[f0,f1,f2])) (hb:P.underlying b=some (.int .u8)) (hs:P.underlying s=some .bool)
  (t0:f0.type=b) (t1:f1.type=b) (t2:f2.type=s) (o0:f0.offset=0) (o1:f1.offset=1) (o2:f2.offset=2) (cb:P.cellsOf b=1) (cz:P.cellsOf s=1) (ce:P.cellsOf e=3) (ct:P.cellsOf t=3*n)
  (h:DataW.trod enc P w base sp held fuel t cs=some (.agg (zs.map zQ),p)):cs=zs.flatMap qB:=by
 obtain⟨xs,m,rfl,hx,hl,hn,N5⟩:=DataW.trod_array ht h;have mr:zs.map (zQ (H:=H))=xs.map (·.1):=by
  have:=aU Prod.fst hx;simpa using this
 have lz:zs.length=n:=by
  have:=aU List.length mr;simpa[hn]using this
 rw[ce]at N5;rw[ct]at hl;have key:∀i (z:Int×Int×Bool),zs[i]? =some z->(cs.drop (i*3)).take 3=qB z:=by
  intro i z hz;have hi:i<n:=by rw[<-lz];exact(List.getElem?_eq_some_iff.1 hz).1
  have h1:=N5 i hi;have h2:(xs.map (·.1))[i]? =some (zQ z):=by rw[<-mr];simp[hz]
  rw[List.getElem?_map]at h2;cases hy:xs[i]? with
  |none=>rw[hy]at h2;simp at h2
  |some y=>
   rw[hy]at h1 h2;simp only[aDr,bA]at h2;obtain⟨y0,y1,y2,k,rfl,an,g0,g1,g2⟩:=trod_struct3 he h1;rw[t0,o0,cb]at g0;rw[t1,o1,cb]at g1;rw[t2,o2,cz]at g2;obtain⟨a0,c0,rfl,_⟩:=aFc hb g0;obtain⟨a1,c1,rfl,_⟩:=aFc hb g1;obtain⟨a2,c2,rfl⟩:=DataW.trod_bool hs g2;rw[ce]at an;simp only[zQ,DataW.agg.injEq,dA,DataW.lit.injEq,Lit.int.injEq,Lit.bool.injEq,yA,rV]at h2;obtain⟨r0,r1,r2⟩:=h2;generalize(cs.drop (i*3)).take 3=l at*
   match l,an with
   |[u0,u1,u2],_=>
    simp at c0 c1 c2;rw[c0,c1,c2,r0,r1,r2];rfl
 apply aA6;intro j;have flat:∀(l:List (Int×Int×Bool)) (i:Nat) (z:Int×Int×Bool),l[i]? =some z->∀k,k<3->(l.flatMap qB)[i*3+k]? =(qB z)[k]? :=by
  intro l;induction l with
  |nil=>intro i z hz;simp at hz
  |cons y r ih=>
   intro i z hz k hk;cases i with
   |zero=>
    simp at hz;subst hz;rw[cC,List.getElem?_append_left (by simp[qB];omega)];simp
   |succ i=>
    simp at hz;rw[cC,List.getElem?_append_right (by simp[qB];omega)];have:(i+1)*3+k-(qB y).length=i*3+k:=by simp[qB];omega
    rw[this];exact ih i z hz k hk
 by_cases hj:j/3<n
 ·have hz:zs[j/3]? =some (zs[j/3]' hO):=List.getElem?_eq_getElem _
  have h1:=key _ _ hz;have h2:=flat zs _ _ hz (j % 3) (tJ _ hO);rw[show j/3*3+j % 3=j by omega]at h2;rw[h2,<-h1,List.getElem?_take,if_pos (tJ _ hO),List.getElem?_drop,show j/3*3+j % 3=j by omega]
 ·have Lb:(zs.flatMap qB).length=3*n:=by
   rw[<-lz];clear key mr N5 hx h hl lz flat hj hn;induction zs with
   |nil=>rfl
   |cons y r ih=>rw[cC,aB,ih];simp[qB];omega
  rw[List.getElem?_eq_none hO,List.getElem?_eq_none hO]
def escL:List (Int×Int×Bool):=[(34,34,true),(92,92,true),(110,10,true),(116,9,true),(114,13,true),(47,47,false)]
def aRU:String:=Rows.codecEncodesRow.named.getD 0 (String.ofList [])
def Esc (w:World):Prop:=w.var? Tryz.prog aRU=some (escL.flatMap qB).toArray
theorem Esc.below {w w':World} (h:Esc w) (hb:Below w.heap.size w w'):Esc w':=by
 unfold Esc World.var? at*
 cases hg:Tryz.prog.globalNamed aRU with
 |none=>simp[hg]at h
 |some g=>
  simp only[hg,lH]at h ⊢;have hlt:g<w.heap.size:=by
   exact Aj3
  rw[hb.block g hlt];exact h
theorem Esc.cell {w:World} (h:Esc w) (i:Nat):w.cell? ⟨2,i,none⟩=(escL.flatMap qB).toArray[i]? :=World.var?_cell uAu h i
theorem Esc.heap {w:World} (h:Esc w):∃t fr,w.heap[2]? =some (.cells #[.int .u8 34,.int .u8 34,.bool true,.int .u8 92,.int .u8 92,.bool true,.int .u8 110,.int .u8 10,.bool true,.int .u8 116,.int .u8 9,.bool true,.int .u8 114,.int .u8 13,.bool true,.int .u8 47,.int .u8 47,.bool false] t fr):=by
 unfold Esc World.var? at h;rw[show Tryz.prog.globalNamed aRU=some 2 by kernel_rfl]at h;simp only[lH]at h;split at h
 ·rename_i cs t fr hg
  exact⟨t,fr,by rw[hg];rw[aH h];rfl⟩
 ·cases h
theorem pF (w:World):(Instr.index 273 (.agg #[.int .u8 34,.int .u8 34,.bool true,.int .u8 92,.int .u8 92,.bool true,.int .u8 110,.int .u8 10,.bool true,.int .u8 116,.int .u8 9,.bool true,.int .u8 114,.int .u8 13,.bool true,.int .u8 47,.int .u8 47,.bool false]) (.int .i64 0)).run Tryz.prog w=.ok (.agg #[.int .u8 34,.int .u8 34,.bool true]) w:=by kernel_rfl
theorem pE (w:World):(Instr.index 273 (.agg #[.int .u8 34,.int .u8 34,.bool true,.int .u8 92,.int .u8 92,.bool true,.int .u8 110,.int .u8 10,.bool true,.int .u8 116,.int .u8 9,.bool true,.int .u8 114,.int .u8 13,.bool true,.int .u8 47,.int .u8 47,.bool false]) (.int .i64 1)).run Tryz.prog w=.ok (.agg #[.int .u8 92,.int .u8 92,.bool true]) w:=by kernel_rfl
theorem pD (w:World):(Instr.index 273 (.agg #[.int .u8 34,.int .u8 34,.bool true,.int .u8 92,.int .u8 92,.bool true,.int .u8 110,.int .u8 10,.bool true,.int .u8 116,.int .u8 9,.bool true,.int .u8 114,.int .u8 13,.bool true,.int .u8 47,.int .u8 47,.bool false]) (.int .i64 2)).run Tryz.prog w=.ok (.agg #[.int .u8 110,.int .u8 10,.bool true]) w:=by kernel_rfl
theorem pC (w:World):(Instr.index 273 (.agg #[.int .u8 34,.int .u8 34,.bool true,.int .u8 92,.int .u8 92,.bool true,.int .u8 110,.int .u8 10,.bool true,.int .u8 116,.int .u8 9,.bool true,.int .u8 114,.int .u8 13,.bool true,.int .u8 47,.int .u8 47,.bool false]) (.int .i64 3)).run Tryz.prog w=.ok (.agg #[.int .u8 116,.int .u8 9,.bool true]) w:=by kernel_rfl
theorem pB (w:World):(Instr.index 273 (.agg #[.int .u8 34,.int .u8 34,.bool true,.int .u8 92,.int .u8 92,.bool true,.int .u8 110,.int .u8 10,.bool true,.int .u8 116,.int .u8 9,.bool true,.int .u8 114,.int .u8 13,.bool true,.int .u8 47,.int .u8 47,.bool false]) (.int .i64 4)).run Tryz.prog w=.ok (.agg #[.int .u8 114,.int .u8 13,.bool true]) w:=by kernel_rfl
theorem pA (w:World):(Instr.index 273 (.agg #[.int .u8 34,.int .u8 34,.bool true,.int .u8 92,.int .u8 92,.bool true,.int .u8 110,.int .u8 10,.bool true,.int .u8 116,.int .u8 9,.bool true,.int .u8 114,.int .u8 13,.bool true,.int .u8 47,.int .u8 47,.bool false]) (.int .i64 5)).run Tryz.prog w=.ok (.agg #[.int .u8 47,.int .u8 47,.bool false]) w:=by kernel_rfl
def uI (c:UInt8):Bool:=decide (c.toNat=32\/c.toNat=9\/c.toNat=10\/c.toNat=13)
def nbS (c:UInt8):Bool:=uW c||iM c
def gE:List (List UInt8):=[[46,46],[61,61],[33,61],[60,61],[62,61],[38,38],[124,124],[91],[93],[123],[125],[60],[62],[40],[41],[44],[58],[46],[42],[63],[33],[36],[64]]
structure TkR where
 k:Int
 n:Int
 t:List UInt8
def zTk:TkR:=⟨0,0,[]⟩
def mQ:List UInt8->TkR×Nat×Int
 |[]=>(zTk,0,0)
 |c::r=>
  if c.toNat=34 then(if(cF (c::r)).2.2=0 then(⟨4,0,(cF (c::r)).1⟩,(cF (c::r)).2.1,0)else(zTk,(cF (c::r)).2.1,(cF (c::r)).2.2))
  else if c.toNat=45\/iM c=true then(if(eO (c::r.takeWhile iM)).2=0 then(⟨3,(eO (c::r.takeWhile iM)).1,[]⟩,(r.takeWhile iM).length+1,0)else(zTk,0,(eO (c::r.takeWhile iM)).2))
  else if uW c=true then(⟨2,0,(c::r).takeWhile nbS⟩,((c::r).takeWhile nbS).length,0)
  else match gE.find? fun x=>x.isPrefixOf (c::r)with
   |some x=>(⟨1,0,x⟩,x.length,0)
   |none=>(zTk,0,2)
theorem iR (c:UInt8) (r:List UInt8):mQ (c::r)=
  if c.toNat=34 then(if(cF (c::r)).2.2=0 then(⟨4,0,(cF (c::r)).1⟩,(cF (c::r)).2.1,0)else(zTk,(cF (c::r)).2.1,(cF (c::r)).2.2))
  else if c.toNat=45\/iM c=true then(if(eO (c::r.takeWhile iM)).2=0 then(⟨3,(eO (c::r.takeWhile iM)).1,[]⟩,(r.takeWhile iM).length+1,0)else(zTk,0,(eO (c::r.takeWhile iM)).2))
  else if uW c=true then(⟨2,0,(c::r).takeWhile nbS⟩,((c::r).takeWhile nbS).length,0)
  else match gE.find? fun x=>x.isPrefixOf (c::r)with
   |some x=>(⟨1,0,x⟩,x.length,0)
   |none=>(zTk,0,2):=rfl
structure Tok where
 k:Int
 a:Nat
 e:Nat
 n:Int
 t:List UInt8
def gS (p:Nat) (x:TkR) (m:Nat):Tok:=⟨x.k,p,p+m,x.n,x.t⟩
def nF (r:List UInt8):Nat:=(r.takeWhile uI).length
def cB (l:List UInt8) (p:Nat):Tok×Nat×Int:=
 let b:=p+nF (l.drop p)
 let q:=mQ (l.drop b)
 if q.2.2=0 then(gS b q.1 q.2.1,0,0)else(⟨0,0,0,0,[]⟩,b+q.2.1,q.2.2)
def jN (x:TkR):List UInt8:=if x.k=1\/x.k=2 then x.t else if x.k=3 then Lib.itoa x.n else if x.k=4 then gI x.t else[]
theorem aOL {α:Type} (p:α->Bool) (l:List α):(l.takeWhile p).length<=l.length:=(List.takeWhile_prefix p).length_le
theorem aRw {α:Type} (p:α->Bool) (l:List α):l.takeWhile p=l.take (l.takeWhile p).length:=(List.prefix_iff_eq_take.1 (List.takeWhile_prefix p))
theorem aFV:∀(n:Nat) (l:List UInt8) (k:Nat) (o:List UInt8),l.length<=n->k<=(iV l k o).2.1/\(iV l k o).2.1<=k+l.length/\((iV l k o).2.2=0->k<(iV l k o).2.1)
 |0,l,k,o,h=>by
  exact Ah5
 |n+1,l,k,o,h=>by
  rw[iV.eq_def];split
  ·simp
  ·rename_i c r
   simp only[aD]at h ⊢;split
   ·simp
   ·split
    ·simp
    ·split
     ·have:=aFV n r (k+1) (o++[c]) hO
      exact Ai4
     ·split
      ·simp
      ·rename_i d r
       simp only[aD]at h ⊢;split
       ·split
        ·refine⟨by simp,by simp,by simp⟩
        ·rename_i x _
         have:=aFV n r (k+2) (o++[x]) hO;exact Ai4
       ·split
        ·simp
        ·rename_i h1 r
         simp only[aD]at h ⊢;split
         ·refine⟨by simp,by simp,by simp⟩
         ·split
          ·simp
          ·rename_i h2 r
           simp only[aD]at h ⊢;split
           ·refine⟨by simp,by simp,by simp⟩
           ·have:=aFV n r (k+4) (o++[UInt8.ofNat (16*hval h1 true+hval h2 true)]) hO
            exact Ai4
theorem aCD (l:List UInt8):(cF l).2.1<=l.length/\((cF l).2.2=0->0<(cF l).2.1):=by
 unfold cF;split
 ·simp
 ·rename_i c r
  split
  ·simp
  ·have:=aFV r.length r 1 [] (aA _)
   simp only[aD];exact⟨by omega,fun h=>by have:=this.2.2 h;omega⟩
theorem aC1 {x r:List UInt8} (h:gE.find? (fun x=>x.isPrefixOf r)=some x):0<x.length/\x.length<=r.length/\x∈gE/\∃q,r=x++q:=by
 have h1:=List.find?_some h;have h2:=List.mem_of_find?_eq_some h;obtain⟨q,hq⟩:=List.isPrefixOf_iff_prefix.1 h1;refine⟨?_,by rw[<-hq];simp,h2,q,hq.symm⟩;have:∀y∈gE,0<y.length:=by decide
 exact this x h2
theorem aBS (r:List UInt8):(mQ r).2.1<=r.length/\((mQ r).2.2=0->r≠[]->0<(mQ r).2.1/\0<(mQ r).1.k):=by
 cases r with
 |nil=>simp[mQ]
 |cons c r=>
  rw[iR];split
  ·have h:=aCD (c::r)
   split
   ·rename_i he
    exact⟨h.1,fun _ _=>⟨h.2 he,(by decide:(0:Int)<4)⟩⟩
   ·rename_i he
    exact⟨h.1,fun h' _=>absurd h' he⟩
  ·split
   ·split
    ·have:=aOL iM r
     simp only[aD];exact⟨by omega,fun _ _=>⟨by omega,(by decide:(0:Int)<3)⟩⟩
    ·rename_i he
     exact⟨aS _,fun h' _=>absurd h' he⟩
   ·split
    ·rename_i hl
     refine⟨aOL nbS (c::r),fun _ _=>⟨?_,(by decide:(0:Int)<2)⟩⟩;rw[dZ,if_pos (by unfold nbS;rw[hl];rfl)];simp
    ·split
     ·rename_i x hx
      obtain⟨h1,h2,_⟩:=aC1 hx;exact⟨h2,fun _ _=>⟨h1,(by decide:(0:Int)<1)⟩⟩
     ·exact⟨aS _,fun h' _=>absurd h' uAv⟩
theorem aL5 (r:List UInt8):nF r<=r.length:=aOL uI r
theorem sA (l:List UInt8) (p:Nat) (hp:p<=l.length) (h:(cB l p).2.2=0):
  p<=(cB l p).1.a/\(cB l p).1.a<=(cB l p).1.e/\(cB l p).1.e<=l.length/\(cB l p).1.a=p+nF (l.drop p)/\((cB l p).1.k=0->(cB l p).1.a=l.length)/\((cB l p).1.k≠0->(cB l p).1.a<(cB l p).1.e):=by
 have hb:=aL5 (l.drop p);rw[cG]at hb;have ht:=aBS (l.drop (p+nF (l.drop p)));rw[cG]at ht;unfold cB at h ⊢;simp only at h ⊢;split at h
 ·rename_i h0
  rw[if_pos h0];simp only[gS];refine⟨by omega,by omega,by omega,trivial,fun hk=> ?_,fun hk=> ?_⟩
  ·rcases eB (p+nF (l.drop p)) l.length with hlt|qq
   ·have:=(ht.2 h0 (fun e=>by have:=aU List.length e;simp at this;omega)).2
    omega
   ·omega
  ·rcases eB (p+nF (l.drop p)) l.length with hlt|qq
   ·have:=(ht.2 h0 (fun e=>by have:=aU List.length e;simp at this;omega)).1
    omega
   ·rw[kY qq]at hk
    exact absurd rfl hk
 ·rename_i h0
  exact absurd h h0
theorem aOu (l:List UInt8) (p:Nat) (hp:p<=l.length) (h:(cB l p).2.2≠0):(cB l p).2.1<=l.length:=by
 have hb:=aL5 (l.drop p);rw[cG]at hb;have ht:=(aBS (l.drop (p+nF (l.drop p)))).1;rw[cG]at ht;unfold cB at h ⊢;dsimp only at h ⊢;split at h
 ·exact absurd rfl h
 ·rename_i h0
  rw[if_neg h0];simp only;omega
theorem aFH (m:Nat):(2:Int)^m=((2^m:Nat):Int):=by rw[Int.natCast_pow];rfl
theorem aIa (h m:Nat):(h:Int)/2^m=((h/2^m:Nat):Int):=by rw[aFH,aKV]
theorem aTa {m:Nat} (hm:m<64):2^m<18446744073709551616:=uT uAv hm
theorem aOF (m:Nat) (hm:m<=64):IntKind.u64.wrap (IntKind.u64.wrap ((2:Int)^m)-1)=((2^m-1:Nat):Int):=by
 by_cases h:m=64
 ·subst h;decide
 ·have h1:=aTa (show m<64 by omega)
  have h2:=nX m;rw[aFH,jL,jL];omega
def tX (h:Nat) (k:Int):Nat:=h % 2^(min (max k 0) 64).toNat
def jD (h:Nat) (k:Int):Nat:=if 0<=k/\k<=12 then h/2^(5*k).toNat % 32 else 0
theorem aJm {h:Nat} (k:Int) (hh:h<18446744073709551616):tX h k<18446744073709551616:=lN (Nat.mod_le _ _) hh
theorem sZ (h:Nat) (k:Int):jD h k<32:=by unfold jD;split<;>omega
theorem aCy (h:Nat) (k:Int) (hh:h<18446744073709551616) (w:World):
  Calls Tryz.prog 176 #[.int .u64 (h:Int),.int .i64 k] w fun e w'=>e=.returned (.int .u64 (tX h k:Int))/\w=w':=by
 have e:bits .and .u64 (h:Int) (IntKind.u64.wrap (IntKind.u64.wrap ((2:Int)^(min (max k 0) 64).toNat)-1))=(tX h k:Int):=by
  have hm:(min (max k 0) 64).toNat<=64:=by omega
  have hp:2^(min (max k 0) 64).toNat<=2^64:=uU uAv hm;rw[aOF _ hm,bits_and_u64_nat h _ hh hO,aQe];rfl
 have H:=eU e;clear e hh;go_enter Tryz.func176,Tryz.ntmps176;go_wp2
 go_ret;exact⟨tS H.out,rfl⟩
theorem aEv (h:Nat) (k:Int) (hh:h<18446744073709551616) (w:World):
  Calls Tryz.prog 180 #[.int .u64 (h:Int),.int .i64 k] w fun e w'=>e=.returned (.int .i64 (jD h k:Int))/\w=w':=by
 by_cases hk:0<=k/\k<=12
 ·obtain⟨q,hq⟩:∃q,q=h/2^(5*k).toNat:=⟨_,rfl⟩
  have H:=eU (fun w=>aCy q 5 (hq▸lN (qN _ _) hh) w);have h1:=aIa h (5*k).toNat;rw[<-hq]at h1;have h2:wrap64 (tX q 5:Int)=(jD h k:Int):=by
   have e:tX q 5=q % 32:=rfl;rw[e,jD,if_pos hk,<-hq];unfold wrap64;omega
  obtain⟨k1,k2⟩:=hk;clear hh hq;go_enter Tryz.func180,Tryz.ntmps180;go_wp2_with fail
  refine(H.out w).mono ?_;rintro e w1 ⟨rfl,rfl⟩;go_wp2_with fail
  go_ret;exact⟨aKe h2,rfl⟩
 ·have h2:jD h k=0:=by rw[jD,if_neg hk]
  have H:=eU h2;clear h2 hh;by_cases h0:k<0
  ·exact Ai7
  ·have MJ:12<k:=by omega
   exact Ai7
open Go.Shelf
def aLg {α:Type} (P:Program) (gf:Nat) (lb:Array Value) (kf:α->Array Value) (RK IK:Nat->World->World->Prop) (S Sp Pr:List α->Prop) (w0:World):Prop:=
 ∀(l:Nat) (J Jx:List α->World->Prop) (W:World),Below w0.heap.size w0 W->(∀s A B,J s A->IK W.heap.size A B->J s B)->
  (∀m pre x V,J pre V->W.heap.size<=V.heap.size->Pr (pre++[x])->YieldAt Fence.wide m P l (kf x) V fun e V'=>
   (e=.returned (.bool true)/\J (pre++[x]) V'/\RK W.heap.size V V')\/(e=.returned (.bool false)/\Jx (pre++[x]) V'))->
  J [] W->∀m,CallsIn Fence.wide m P gf (#[.func (.yield l) #[] #[]]++lb) W fun e W'=>(∃v,e=.returned v)/\((∃ys,S ys/\J ys W')\/(∃pre,Sp pre/\Jx pre W'))
structure aLf (RK IK:Nat->World->World->Prop) (n₀:Nat):Prop where
 trans:∀{Y:Nat} {A B C:World},RK Y A B->RK Y B C->RK Y A C
 put:∀{Y l:Nat} {A:World} {o o':Obj},A.heap[l]? =some o->o.isCells=false->n₀<=l->l<Y->RK Y A (A.putObj l o')
 low:∀{Y k:Nat} {A B:World},IK Y A B->k<Y->k<A.heap.size->B.heap[k]? =A.heap[k]?
def KW (Ts:TypeId->Prop) (n₀ Y:Nat) (A B:World):Prop:=Below n₀ A B/\A.heap.size<=B.heap.size/\(∀(k:Nat) (cs:Array Value) (T:TypeId) (fr:Nat×Nat),A.heap[k]? =some (.cells cs T fr)->¬Ts T->B.heap[k]? =some (.cells cs T fr))/\∀(k:Nat) (o:Obj),Y<=k->A.heap[k]? =some o->o.isCells=false->B.heap[k]? =some o
def IKW (Ts:TypeId->Prop) (Y:Nat) (A B:World):Prop:=A.heap.size<=B.heap.size/\Below Y A B/\∀(k:Nat) (cs:Array Value) (T:TypeId) (fr:Nat×Nat),A.heap[k]? =some (.cells cs T fr)->Ts T->B.heap[k]? =some (.cells cs T fr)
theorem KW.trans {Ts:TypeId->Prop} {n₀ Y:Nat} {A B C:World} (h:KW Ts n₀ Y A B) (k:KW Ts n₀ Y B C):KW Ts n₀ Y A C:=
 ⟨h.1.trans k.1,aI h.2.1 k.2.1,fun i cs T fr e hT=>k.2.2.1 i cs T fr (h.2.2.1 i cs T fr e hT) hT,fun i o hi e ho=>k.2.2.2 i o hi (h.2.2.2 i o hi e ho) ho⟩
theorem KW.up {Ts:TypeId->Prop} {n₀ Y Z:Nat} {A B:World} (h:KW Ts n₀ Y A B) (hz:Y<=Z):KW Ts n₀ Z A B:=⟨h.1,h.2.1,h.2.2.1,fun i o hi=>h.2.2.2 i o (aI hz hi)⟩
theorem IKW.down {Ts:TypeId->Prop} {Y Z:Nat} {A B:World} (h:IKW Ts Z A B) (hz:Y<=Z):IKW Ts Y A B:=⟨h.1,h.2.1.mono hz,h.2.2⟩
theorem KW.below {Ts:TypeId->Prop} {n₀ Y:Nat} {A B:World} (h:Below A.heap.size A B) (hn:n₀<=A.heap.size):KW Ts n₀ Y A B:=
 ⟨h.mono hn,h.size,fun i _ _ _ e _=>(h.block i (gZ e)).trans e,fun i _ _ e _=>(h.block i (gZ e)).trans e⟩
theorem IKW.below {Ts:TypeId->Prop} {Y:Nat} {A B:World} (h:Below A.heap.size A B) (hY:Y<=A.heap.size):IKW Ts Y A B:=
 ⟨h.size,h.mono hY,fun i _ _ _ e _=>(h.block i (gZ e)).trans e⟩
theorem IKW.grown {Ts:TypeId->Prop} {Y X:Nat} {A B:World} (h:A.grownBy B (some X)) (hX:Y<=X) (FY:X<A.heap.size) (hT:∀(cs:Array Value) (T:TypeId) (fr:Nat×Nat),A.heap[X]? =some (.cells cs T fr)->¬Ts T):IKW Ts Y A B:=
 ⟨h.size,(bB _ A).grown h hO (fun k e=>by cases e;exact hX),fun i cs T fr e ht=>(h.block i (gZ e) (fun e'=>by cases e';exact hT cs T fr e ht)).trans e⟩
theorem KW.grown {Ts:TypeId->Prop} {n₀ Y X:Nat} {A B:World} (h:A.grownBy B (some X)) (hX:n₀<=X) (FY:X<A.heap.size) {cs:Array Value} {T:TypeId} {fr:Nat×Nat} (hT:A.heap[X]? =some (.cells cs T fr)) (ht:Ts T):KW Ts n₀ Y A B:=
 ⟨(bB _ A).grown h hO (fun k e=>by cases e;exact hX),h.size,fun i Jc T' N4 e D6=>(h.block i (gZ e) (fun e'=>by
  cases e'
  rw[hT]at e;simp only[bA,dK]at e;rw[<-e.2.1]at D6;exact D6 ht)).trans e,fun i o _ e ho=>(h.block i (gZ e) (fun e'=>by
  cases e'
  rw[hT]at e;cases e
  cases ho)).trans e⟩
theorem aCI (Ts:TypeId->Prop) (n₀:Nat):aLf (fun Y A B=>KW Ts n₀ Y A B) (fun Y A B=>IKW Ts Y A B) n₀ where
 trans:=fun h k=>h.trans k
 put:=fun {Y l A o o'} h ho hn h1=>⟨(bB n₀ A).grown (fC A l o') (by have:=(gZ h);omega) (fun k e=>by cases e;omega),(fC A l o').size,
  fun i cs T fr e _=>by
   rw[cN (fun e'=>by rw[e',h]at e;cases e;cases ho)];exact e,
  fun i o hi e _=>by rw[cN hO];exact e⟩
 low:=fun h h1 _=>h.2.1.block _ h1
def wS:List UInt8->Int
 |[]=>0
 |c::r=>(c.toNat:Int)*256^r.length+wS r
theorem aDh (n:Int):(wK n).length=8:=rfl
def aDp (w w':World):Prop:=∃n,w'=w.drewN n
theorem aDp.refl (w:World):aDp w w:=⟨0,rfl⟩
theorem aDp.more {w w1:World} (h:aDp w w1) (n:Nat):aDp w (w1.drewN n):=by
 obtain⟨k,rfl⟩:=h;exact⟨k+n,by rw[World.drewN_drewN]⟩
theorem aDp.below {w w1:World} (h:aDp w w1):Below w.heap.size w w1:=by
 exact Al7
theorem cY (s:ByteArray):s.data.toList.length=s.size:=by simp
theorem aBX (s:ByteArray) (k:Nat) (h:k<s.size):s.data.toList.take (k+1)=s.data.toList.take k++[s[k]]:=by
 rw[bP uDu];rfl
theorem yZ {x y:Int} (h:x=y):Ending.returned (.int .i64 x)=.returned (.int .i64 y):=by rw[h]
def bN (t:Tok):Array Value:=#[.int .i64 t.k,.int .i64 (t.a:Int),.int .i64 (t.e:Int),.int .i64 t.n,.string ⟨t.t.toArray⟩]
def aFq (t:Tok):Value:=.agg (bN t)
def aRk (l:List UInt8) (p:Nat):Tok×Nat×Int:=
 let m:=(l.drop (p+1)).takeWhile iM
 let q:=eO ((l.drop p).take (m.length+1))
 if q.2=0 then(⟨3,p,p+m.length+1,q.1,[]⟩,0,0)else(⟨0,0,0,0,[]⟩,p,q.2)
theorem aKP (s:ByteArray) (a b:Nat):(s.extract a b).data.toList=(s.data.toList.drop a).take (b-a):=by
 rw[ByteArray.data_extract,Array.toList_extract]
theorem aHg (x l:List UInt8):x.isPrefixOf l=(l.take x.length==x):=by
 rw[Bool.eq_iff_iff,List.isPrefixOf_iff_prefix,eK,List.prefix_iff_eq_take];exact⟨fun h=>h.symm,fun h=>h.symm⟩
theorem aFl (f:UInt8->Bool) (s:ByteArray) (p k:Nat) (h0:p<=k) (h1:k<=s.size) (ha:∀j (h:j<s.size),p<=j->j<k->f s[j]=true) (he:k=s.size\/∃h:k<s.size,f s[k]=false):
  (s.data.toList.drop p).takeWhile f=(s.data.toList.drop p).take (k-p)/\((s.data.toList.drop p).takeWhile f).length=k-p:=by
 have hl:s.data.toList.length=s.size:=cY s;have h:(s.data.toList.drop p).takeWhile f=(s.data.toList.drop p).take (k-p):=by
  have hs:s.data.toList.drop p=(s.data.toList.drop p).take (k-p)++s.data.toList.drop k:=by
   conv=>lhs;rw[<-eD (k-p) (s.data.toList.drop p)]
   rw[gH,show p+(k-p)=k by omega]
  have hall:∀c∈(s.data.toList.drop p).take (k-p),f c=true:=fun c hc=>by
   obtain⟨j,hj,rfl⟩:=List.getElem_of_mem hc;simp only[bQ,cG,hl]at hj;rw[aLn,aLo];exact ha (p+j) hO hO hO
  conv=>lhs;rw[hs]
  rw[List.takeWhile_append_of_pos hall];rcases he with rfl|⟨h,hf⟩
  ·rw[kY (show s.data.toList.length<=s.size by omega)];simp
  ·rw[lW (show k<s.data.toList.length by omega),dZ,if_neg (by rw[show s.data.toList[k]=s[k]from rfl,hf];decide),fE]
 exact⟨h,by rw[h,bQ,cG,hl];omega⟩
def aFQ (s:ByteArray) (p k:Nat):Tok×Nat×Int:=
 if(eO (s.extract p k).data.toList).2=0 then(⟨3,p,k,(eO (s.extract p k).data.toList).1,[]⟩,0,0)else(⟨0,0,0,0,[]⟩,p,(eO (s.extract p k).data.toList).2)
theorem aOr (s:ByteArray) (p k:Nat) (_:p<s.size) (h0:p+1<=k) (h1:k<=s.size) (ha:∀j (h:j<s.size),p+1<=j->j<k->iM s[j]=true) (he:k=s.size\/∃h:k<s.size,iM s[k]=false):aRk s.data.toList p=aFQ s p k:=by
 obtain⟨h2,h3⟩:=aFl iM s (p+1) k h0 h1 ha he;unfold aRk aFQ;simp only;rw[h3,aKP,show k-(p+1)+1=k-p by omega,show p+(k-(p+1))+1=k by omega]
theorem nN {x y:Bool} (h:x=y):Ending.returned (.bool x)=.returned (.bool y):=by rw[h]
theorem bR:(Tryz.prog.info? 90).map (·.size)=some 5:=by kernel_rfl
section
variable {P : Program} {md : Region.Mode} {ops : Array Oper} {Q : Exit → Act → World → Prop} {S : World → Prop} {U : List Nat}
def lR (P:Program) (ops:Array Oper) (S:World->Prop) (o:Oper) (v:Value) (a:Act):Prop:=
 Region.wanted o (yielded ops a.tmps)=true/\∀w,S w->∃f args,(execOp a.eval o).run P w=.ok (.enter f args) w/\Calls P f args w fun e w'=>e=.returned v/\w'=w
theorem lR.wpOp {i:Nat} {o:Oper} {v:Value} {a:Act} (hi:ops[i]? =some o) (hy:lR P ops S o v a)
  {K:Act->World->Prop} {w:World} (hS:S w) (h:K (a.put o.dst v) w):wpOp P ops Q i K a w:=by
 obtain⟨hw,hv⟩:=hy;obtain⟨f,args,cr,hc⟩:=hv w hS;unfold Go.wpOp;simp only[hi,hw,xO,Oper.wp,cr,Oper.upon];refine .inl (hc.mono ?_);rintro e w' ⟨rfl,rfl⟩;exact h
theorem lR.of_same {o:Oper} {v:Value} {a a':Act} (hy:lR P ops S o v a) (he:execOp a'.eval o=execOp a.eval o)
  (hw:Region.wanted o (yielded ops a'.tmps)=Region.wanted o (yielded ops a.tmps)):lR P ops S o v a':=by
 unfold lR at*
 rw[he,hw];exact hy
theorem aLq {j:Nat} {oi oj:Oper} {v:Value} (hj:ops[j]? =some oj) (V6:oi.apart ops oj=true)
  (Wa:∀cs b,oi.op≠.select cs b) (Tz:∀cs b,oj.op≠.select cs b)
  (hQ:∀c a w,Q (.panic c) (a.put oi.dst v) w->Q (.panic c) a w) {K:Act->World->Prop} {a:Act} {w:World}
  (hy:lR P ops S oi v a) (h:wpOp P ops Q j K (a.put oi.dst v) w):
  wpOp P ops Q j (fun a' w'=>lR P ops S oi v a'/\K (a'.put oi.dst v) w') a w:=by
 obtain⟨h1,h2,h3⟩:=Oper.apart_spec V6;have oc:∀(a:Act),lR P ops S oi v a->∀u,lR P ops S oi v (a.put oj.dst u):=fun a hy u=>
  hy.of_same (aIK oi Wa a oj.dst u h3) (wanted_put oi a oj.dst u h3)
 have D9:∀d,lR P ops S oi v {a with defers:=d::a.defers}:=fun d=>hy.of_same rfl rfl
 unfold wpOp at*
 simp only[hj]at*
 rw[wanted_put oj a oi.dst v h1]at h;split
 ·rename_i hw
  simp only[hw,xO]at h;rcases h with h|⟨Jd,Pk⟩
  case inr=>exact .inr ⟨by unfold Oper.asks at*;rw[aIK oj Tz a oi.dst v h1]at Jd;exact Jd,Pk⟩
  refine .inl ?_;unfold Oper.wp at*
  rw[aIK oj Tz a oi.dst v h1]at h;generalize(execOp a.eval oj).run P w=r at*
  cases r with
  |ok n w'=>
   cases n<;>simp only[Oper.upon]at h ⊢
   case value u=>exact⟨oc a hy u,by rw[<-iU a v u h2];exact h⟩
   case skip=>exact⟨oc a hy _,by rw[<-iU a v undef h2];exact h⟩
   case defer d=>
    refine⟨oc _ (D9 d) _,?_⟩;rw[<-iU _ v undef h2,<-Act.put_defers];exact h
   case enter f args=>
    refine Calls.mono h fun e Ea he=> ?_
    cases e with
    |returned u=>exact⟨oc a hy u,by rw[<-iU a v u h2];exact he⟩
    |panicked c=>exact hQ _ _ _ he
    |outgrown=>exact he
   case row row args=>exact Rows.mono h fun u Ea he=>⟨oc a hy u,by rw[<-iU a v u h2];exact he⟩
  |halt x w'=>
   cases x<;>simp only[Oper.upon]at h ⊢
   case panic u=>exact hQ _ _ _ h
 ·rename_i hw
  simp only[hw]at h;exact⟨oc a hy _,by rw[<-iU a v undef h2];exact h⟩
theorem aDB {i:Nat} {oi:Oper} {v:Value} (hi:ops[i]? =some oi) (ob:∀(j:Nat) (o:Oper) cs b,ops[j]? =some o->o.op≠.select cs b)
  (hQ:∀c a w,Q (.panic c) (a.put oi.dst v) w->Q (.panic c) a w) (hw:kZ md ops U i=true):
  ∀(fuel:Nat) (listed:Array Bool) (a:Act) (w:World),
   (∀j oj,ops[j]? =some oj->j≠i->listed.getD j true=false->(∀e∈oj.after,Region.binds md e=true->e.on≠i)->oi.apart ops oj=true)->
   uL md ops listed->i∈Region.ready md ops listed->lR P ops S oi v a->S w->
   eL P md ops Q S U fuel (listed.setIfInBounds i true) (a.put oi.dst v) w->eL P md ops Q S U (fuel+1) listed a w:=by
 intro fuel;induction fuel with
 |zero=>
  intro listed a w _ _ hr hy hS H;refine⟨fun h=>uEw,fun j hj=> ?_⟩;by_cases ga:j=i
  ·subst ga;exact hy.wpOp hi hS ⟨fun _=>hS,H⟩
  ·have:=kN hj ga
   rw[H.1]at this;cases this
 |succ fuel ih=>
  intro listed a w jk mq hr hy hS H;refine⟨fun h=>uEw,fun j hj=> ?_⟩;by_cases ga:j=i
  ·subst ga;exact hy.wpOp hi hS ⟨fun _=>hS,H⟩
  ·have h1:=H.2 j (kN hj ga)
   obtain⟨mg,oj,r8,hall⟩:=xS.1 hj;have dw:listed.getD i false=false:=by
    exact Ab4
   have u7:∀e∈oj.after,Region.binds md e=true->e.on≠i:=fun e he hb heq=>by
    have h1:=hall e he hb;rw[heq,dw]at h1;cases h1
   have K6:U.contains j=false:=by
    exact Ag1
   have h2:=aLq r8 (jk j oj r8 ga mg u7) (fun cs b=>ob i oi cs b hi) (fun cs b=>ob j oj cs b r8) hQ hy h1;exact Ab3
theorem qJ {i:Nat} {oi:Oper} {v:Value} {fuel:Nat} {listed:Array Bool} {a:Act} {w:World} (hi:ops[i]? =some oi)
  (hs:Region.noSelect ops=true) (hf:Region.free md ops listed i=true) (hr:(Region.ready md ops listed).contains i=true) (hw:(kZ md ops U i&&oM md ops listed)=true)
  (hQ:∀c a w,Q (.panic c) (a.put oi.dst v) w->Q (.panic c) a w) (hy:lR P ops S oi v a) (hS:S w)
  (h:eL P md ops Q S U fuel (listed.setIfInBounds i true) (a.put oi.dst v) w):eL P md ops Q S U (fuel+1) listed a w:=
 aDB hi (mA hs) hQ (bH.1 hw).1 fuel listed a w (pR hi hf) (sY (bH.1 hw).2) uNv hy hS h
end
end Go.Proofs.YthmfgidbcghnfaaGreatDoor
namespace Go.Proofs.YthmfgidbcghnfaaGreatDoor
open Go.RowKit
theorem tE (b i:Nat):aSj b i=b.testBit i:=by
 unfold aSj;rw[Nat.testBit_eq_decide_div_mod_eq];rfl
theorem aTF {a b:Nat} (ha:a<2^32) (hb:b<2^32) (h:∀i,i<32->a.testBit i=b.testBit i):a=b:=by
 apply Nat.eq_of_testBit_eq;intro i;by_cases hi:i<32
 ·exact h i hi
 ·rw[Nat.testBit_lt_two_pow (bK ha (uU uAv hO)),Nat.testBit_lt_two_pow (bK hb (uU uAv hO))]
theorem aBp (op:BinOp) (a b n:Nat) (hn:n<2^32) (h:∀i,i<32->(match op with
  | .and=>BitVec.ofNat 32 a&&&BitVec.ofNat 32 b
  | .or=>BitVec.ofNat 32 a|||BitVec.ofNat 32 b
  | .xor=>BitVec.ofNat 32 a^^^BitVec.ofNat 32 b
  |_=>BitVec.ofNat 32 a&&&~~~(BitVec.ofNat 32 b)).getLsbD i=n.testBit i):bits op .u32 (a:Int) (b:Int)=(n:Int):=by
 unfold bits;show IntKind.u32.wrap _=_;have e:(match op with
  | .and=>BitVec.ofInt 32 (a:Int)&&&BitVec.ofInt 32 (b:Int)
  | .or=>BitVec.ofInt 32 (a:Int)|||BitVec.ofInt 32 (b:Int)
  | .xor=>BitVec.ofInt 32 (a:Int)^^^BitVec.ofInt 32 (b:Int)
  |_=>BitVec.ofInt 32 (a:Int)&&&~~~(BitVec.ofInt 32 (b:Int))).toNat=n:=by
  simp only[BitVec.ofInt_natCast];apply aTF (BitVec.isLt _) hn;intro i hi;rw[BitVec.testBit_toNat];exact h i hi
 rw[aNi];have Ge:n<4294967296:=hn;refine Eq.trans (aU (fun m:Nat=>(m:Int) % 4294967296) e) ?_;omega
theorem aFS {a:Nat} {i:Nat} (hi:i<32):(BitVec.ofNat 32 a).getLsbD i=a.testBit i:=by
 rw[BitVec.getLsbD_ofNat];simp[hi]
theorem aGn (a b:Nat) (ha:a<2^32):bits .and .u32 (a:Int) (b:Int)=((a&&&b:Nat):Int):=
 aBp .and a b _ (lN Nat.and_le_left ha) fun i hi=>by simp only[BitVec.getLsbD_and,aFS hi,aDt]
theorem aO4 {b c:Nat}:∀{k:Nat},(∀i,i<k->b.testBit i=c.testBit i)->rkN b k=rkN c k
 |0,_=>rfl
 |k+1,h=>by
  unfold rkN;rw[aO4 (k:=k) (fun i hi=>h i hO),tE,tE,h k hO]
theorem aKd {b:Nat} {i:Nat}:∀{k:Nat},i<=k->(∀j,i<=j->j<k->b.testBit j=false)->rkN b k=rkN b i
  |0,h,_=>by obtain rfl:i=0:=hO;rfl
  |k+1,h,h2=>by
   by_cases e:i=k+1
   ·subst e;rfl
   ·rw[<-aKd (k:=k) (i:=i) hO fun j a c=>h2 j a hO]
    conv=>lhs;unfold rkN
    rw[tE,h2 k hO hO];simp
theorem aO3 (b i:Nat) (hi:i<=32):rkN (b&&&(2^i-1)) 32=rkN b i:=by
 rw[aKd hi fun j h1 _=>by rw[aDt,xQ];simp;omega];exact aO4 fun j hj=>by rw[aDt,xQ];simp[hj]
theorem aFA (b m:Nat):∀k,rkN b (m+k)=rkN b m+rkN (b/2^m) k
 |0=>rfl
 |k+1=>by
  show rkN b (m+k)+_=_+(rkN (b/2^m) k+_)
  rw[aFA b m k,aA8,tE,tE,Nat.testBit_div_two_pow,Nat.add_comm k m];rfl
theorem aJb (b:Nat):rkN (b % 256) 8=rkN b 8:=aO4 fun i hi=>by
 rw[show(256:Nat)=2^8 by decide,Nat.testBit_mod_two_pow];simp[hi]
theorem aO5 (b:Nat):rkN b 32=rkN (b/16777216) 8+rkN (b/65536 % 256) 8+rkN (b/256 % 256) 8+rkN (b % 256) 8:=by
 rw[show(32:Nat)=8+(8+(8+8)) by decide,aFA,aFA,aFA,aJb,aJb,aJb,Nat.div_div_eq_div_mul,Nat.div_div_eq_div_mul];simp only[Nat.reducePow,Nat.reduceMul];omega
theorem aC9 {i:Nat} (hi:i<32):List.range 32=List.range i++([i]++(List.range (31-i)).map (i+1+ ·)):=by
 rw[show(32:Nat)=(i+1)+(31-i) by omega,List.range_add,aDu];simp
def oT (b p:Nat):Nat:=b/2^p*2^p
theorem aAu (b p i:Nat):(oT b p).testBit i=(decide (p<=i)&&b.testBit i):=by
 unfold oT;rw[aBb,Nat.testBit_div_two_pow];by_cases h:p<=i
 ·simp[h]
 ·simp[h]
theorem aMn (b:Nat):oT b 0=b:=by simp[oT]
theorem aKy {b:Nat} (p:Nat) (h:b<2^32):oT b p<2^32:=lN (Nat.div_mul_le_self b (2^p)) h
end Go.Proofs.YthmfgidbcghnfaaGreatDoor
