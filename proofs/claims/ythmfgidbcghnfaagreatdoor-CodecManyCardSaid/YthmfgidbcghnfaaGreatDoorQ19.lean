import Derived.Test.YthmfgidbcghnfaaGreatDoorQ0
import Derived.Test.YthmfgidbcghnfaaGreatDoorQ18
set_option maxRecDepth 1000000
set_option maxHeartbeats 8000000
set_option linter.unusedSimpArgs false
namespace Go.Proofs.YthmfgidbcghnfaaGreatDoor
open Go.RowKit
def sK (k:Int):UInt8:=if k=4 then 91 else if k=5 then 123 else 60
def kR (k:Int):UInt8:=if k=4 then 93 else if k=5 then 125 else 62
mutual
def eY:Tr->List UInt8
 | .nd k n t ks xs=>
  if k=0 then[110,117,108,108]
  else if k=1 then(if n=1 then[116,114,117,101]else[102,97,108,115,101])
  else if k=2 then Lib.itoa n
  else if k=3 then gI (kb t)
  else sK k::(kU k ks xs++[kR k])
def kU (k:Int):List ByteArray->List Tr->List UInt8
 |_,[]=>[]
 |ks,x::r=>(if k=5 then gI (kb (ks.headD ⟨#[]⟩))++[58]else[])++(eY x++nK k ks.tail r)
def nK (k:Int):List ByteArray->List Tr->List UInt8
 |_,[]=>[]
 |ks,x::r=>44::((if k=5 then gI (kb (ks.headD ⟨#[]⟩))++[58]else[])++(eY x++nK k ks.tail r))
end
def hdS (t:Tok):Option (Int×Int×List UInt8×Bool):=
 if t.k=3 then some (2,t.n,[],false)
 else if t.k=4 then some (3,0,t.t,false)
 else if t.k=2 then(if t.t=[110,117,108,108]then some (0,0,[],false)else if t.t=[116,114,117,101]then some (1,1,[],false)else if t.t=[102,97,108,115,101]then some (1,0,[],false)else none)
 else if t.k=1 then(if t.t=[91]then some (4,0,[],true)else if t.t=[123]then some (5,0,[],true)else if t.t=[60]then some (6,0,[],true)else none)
 else none
def rdK (l:List UInt8) (k:Int) (a:Nat) (seen:List (List UInt8)) (ks:List ByteArray):Except (Nat×Int) (Nat×List (List UInt8)×List ByteArray):=
 if k=5 then
  match nxR l a with
  | .error q=>.error q
  | .ok y=>if y.k≠4 then .error (y.a,2)else if y.t∈seen then .error (y.a,6)else
   match nxR l y.e with
   | .error q=>.error q
   | .ok c=>if isS c 58 then .ok (c.e,seen++[y.t],ks++[⟨y.t.toArray⟩])else .error (c.a,2)
 else .ok (a,seen,ks)
structure Rd where
 t:Tr
 e:Nat
 n:Nat
 a:Nat
mutual
def rdV (l:List UInt8):Nat->Nat->Nat->Nat->Except (Nat×Int) Rd
 |0,_,_,_=>.error (0,0)
 |f+1,d,a,n=>
  match nxR l a with
  | .error q=>.error q
  | .ok t=>
   match hdS t with
   |none=>.error (t.a,2)
   |some (k,i,x,p)=>
    if 64<d then .error (t.a,7)
    else if 16384<n+1 then .error (t.a,8)
    else if p=false then .ok ⟨.nd k i ⟨x.toArray⟩ [] [],t.e,n+1,t.a⟩
    else match nxR l t.e with
     | .error q=>.error q
     | .ok u=>if isS u (kR k)then .ok ⟨.nd k 0 ⟨#[]⟩ [] [],u.e,n+1,t.a⟩
      else match rdP l f k d t.e (n+1) [] [] []with
       | .error q=>.error q
       | .ok r=>.ok ⟨r.t,r.e,r.n,t.a⟩
def rdP (l:List UInt8):Nat->Int->Nat->Nat->Nat->List (List UInt8)->List ByteArray->List Tr->Except (Nat×Int) Rd
 |0,_,_,_,_,_,_,_=>.error (0,0)
 |f+1,k,d,a,n,seen,ks,xs=>
  match rdK l k a seen ks with
  | .error q=>.error q
  | .ok (b,seen,ks)=>
   match rdV l f (d+1) b n with
   | .error q=>.error q
   | .ok r=>
    if k=6/\dW (cP r.t)∈seen then .error (r.a,6)
    else match nxR l r.e with
     | .error q=>.error q
     | .ok u=>
      if isS u 44 then rdP l f k d u.e r.n (if k=6 then seen++[dW (cP r.t)]else seen) ks (xs++[r.t])
      else if isS u (kR k)then .ok ⟨.nd k 0 ⟨#[]⟩ ks (xs++[r.t]),u.e,r.n,0⟩
      else .error (u.a,2)
end
def mG (l:List UInt8) (a:Nat):Except (Nat×Int) (Tr×Nat):=
 match rdV l (2*l.length+2) 1 a 0 with
 | .error q=>.error q
 | .ok r=>.ok (cP r.t,r.e)
def jO (l:List UInt8):Except (Nat×Int) Tr:=
 if 1048576<l.length then .error (0,14)
 else match mG l 0 with
  | .error q=>.error q
  | .ok (t,e)=>if(cB l e).2.2≠0 then .error (cB l e).2 else if(cB l e).1.k≠0 then .error ((cB l e).1.a,11)else .ok t
end Go.Proofs.YthmfgidbcghnfaaGreatDoor
namespace Go.Proofs.YthmfgidbcghnfaaGreatDoor
open Go.RowKit Go.Extern.Stop Go.Stop Go.Extern
abbrev vC (a:Addr):Value:=.agg #[.pointer (some ⟨7,121,none⟩),.pointer (some a),.int .u64 150]
theorem aSn {B:Nat} (E:Value) (c:Option Int) (l:List Int) (t a:Addr) (old:Value) (w:World) (uq:Ch B w E c l) (hB:B<=w.heap.size) (ht:w.cell? t=some old) (hf:w.frozen? t=false):
  Calls Tryz.prog 110 #[.iface 120 (.agg #[E]),.iface 121 (.pointer (some t)),vC a,.iface 220 (.agg #[.pointer (some ⟨7,31,none⟩)])] w
   fun e w'=>rF w t c e w':=by
 have Xm:=@cJ Tryz.prog 145 _ ReflectliteType.typeOf Tryz.func145 uAu uAu uAu uAu;have Xn:=@cJ Tryz.prog 317 _ (ReflectliteType.relation "AssignableTo" ReflectliteType.assignableTo) Tryz.func317 uAu uAu uAu uAu;have f1:=yX;have f2:=kV;have f3:=aN9;have f4:=aSm;have f5:=zG;have f6:=un_l;have f7:=tZ;have HT:=iH ht;have HF:=iH hf;have HC:=iH uq;have HB:=iH hB;clear ht hf uq hB;go_enter Tryz.func110,Tryz.ntmps110;go_wp2
 go_loopw [0] (fun v wl=>∃E' l',v=.iface 120 (.agg #[E'])/\Ch B w E' c l'/\Below w.heap.size w wl) (fun v _=>lkLen B w v)
 case atStart=>exact⟨E,l,rfl,HC.out,Below.newly' _ _⟩
 case round=>
  obtain⟨E',l',rfl,He,hb⟩:=hrel;have Bj:=hb;cases He with
  |code k hk=>
   have D6:=(hb.cell (p:=t) (aO w t HT.out)).trans HT.out;have Ty:=(aGi hb t (aO w t HT.out)).trans HF.out;have IH:=iH D6;have II:=iH Ty;clear D6 Ty;go_wp2_with fail
   refine(aRF k t old wr IH.out II.out).mono ?_;rintro e w1 ⟨rfl,rfl⟩;go_wp2_with fail
   go_ret;exact Or.inl ⟨k,rfl,rfl,_,Below.more hb _,rfl⟩
  |bare b n h1 h2 h3 h4=>
   have hlt:b<w.heap.size:=bK h1 HB.out;have gn:=dU ((hb.cell (p:=⟨b,1,none⟩) hlt).trans h4) (.cells #[.iface 152 (.pointer (some ⟨b,0,none⟩))] 120);have H4:=iH gn;clear gn h3 h4;go_wp2_with fail
   refine(aKC _ t wr).mono ?_;rintro e w1 ⟨rfl,rfl⟩;go_wp2_with fail
   refine(aDV b _ H4.out).mono ?_;rintro e w1 ⟨rfl,rfl⟩;go_wp2_with fail
   go_ret;exact Or.inr ⟨rfl,rfl,Below.more (Below.more hb _) _⟩
  |put b n u x c l h1 h2 h3 h4 h5=>
   have hlt:b<w.heap.size:=bK h1 HB.out;have gn:=dU ((hb.cell (p:=⟨b,1,none⟩) hlt).trans h4) (.cells #[.iface 152 (.pointer (some ⟨b,0,none⟩))] 120);have H4:=iH gn;have H5:=iH h5;have H6:=iH (Ch.put b n u x c l h1 h2 h3 h4 h5);clear gn h3 h4 h5;go_wp2_with fail
   refine(aKC _ t wr).mono ?_;rintro e w1 ⟨rfl,rfl⟩;go_wp2_with fail
   refine(aMp b u x _ H4.out).mono ?_;rintro e w1 ⟨rfl,rfl⟩;go_wp2_with fail
   go_roundw
   case rel=>exact⟨_,l,rfl,H5.out,Below.more (Below.more hb _) _⟩
   case measure=>
    show wI B w (.iface u x)<wI B w (.iface 152 (.pointer (some ⟨b,0,none⟩)));rw[aD8 H5.out,aD8 H6.out];simp
abbrev vP (a:Addr):Value:=.agg #[.pointer (some ⟨7,177,none⟩),.pointer (some a),.int .u64 150]
def aGr (w:World) (t:Addr) (v:Value) (e:Ending) (w':World):Prop:=e=.returned (.bool true)/\∃w2,Below w.heap.size w w2/\w'=w2.setCell t v
def tF (w:World) (e:Ending) (w':World):Prop:=e=.returned (.bool false)/\Below w.heap.size w w'
theorem aJR (p t a:Addr) (old:Value) (w:World) (ht:w.cell? t=some old) (hf:w.frozen? t=false):
  Calls Tryz.prog 110 #[.iface 120 (.agg #[.iface 152 (.pointer (some p))]),.iface 177 (.pointer (some t)),vP a,.iface 220 (.agg #[.pointer (some ⟨7,152,none⟩)])] w
   fun e w'=>aGr w t (.pointer (some p)) e w':=by
 have Xm:=@cJ Tryz.prog 145 _ ReflectliteType.typeOf Tryz.func145 uAu uAu uAu uAu;have Xn:=@cJ Tryz.prog 317 _ (ReflectliteType.relation "AssignableTo" ReflectliteType.assignableTo) Tryz.func317 uAu uAu uAu uAu;have f1:=yX;have f2:=kV;have f3:=aAG;have f4:=aSm;have f5:=zG;have HT:=iH (dU ht (.cells #[.pointer (some ⟨7,177,none⟩),.pointer (some a),.int .u64 150] 181));have HF:=iH (iC ht hf (.cells #[.pointer (some ⟨7,177,none⟩),.pointer (some a),.int .u64 150] 181));clear ht hf;go_enter Tryz.func110,Tryz.ntmps110;go_wp2
 refine lL 1 ?_;rw[lE];go_wp2_with fail
 refine(aRD p t old _ HT.out HF.out).mono ?_;rintro e w1 ⟨rfl,rfl⟩;go_wp2_with fail
 go_ret;exact(⟨rfl,_,Below.more (Below.newly' _ _) _,rfl⟩:aGr _ _ _ _ _)
theorem aJS (c:Int) (t a:Addr) (w:World):
  Calls Tryz.prog 110 #[.iface 120 (.agg #[.iface 31 (.int .i64 c)]),.iface 177 (.pointer (some t)),vP a,.iface 220 (.agg #[.pointer (some ⟨7,152,none⟩)])] w
   fun e w'=>tF w e w':=by
 have Xm:=@cJ Tryz.prog 145 _ ReflectliteType.typeOf Tryz.func145 uAu uAu uAu uAu;have Xn:=@cJ Tryz.prog 317 _ (ReflectliteType.relation "AssignableTo" ReflectliteType.assignableTo) Tryz.func317 uAu uAu uAu uAu;have f1:=yX;have f2:=kV;have f3:=aAG;have f4:=aSm;have f5:=zG;have f6:=un_l;have f7:=tZ;go_enter Tryz.func110,Tryz.ntmps110;go_wp2
 refine lL 1 ?_;rw[lE];go_wp2_with fail
 refine(aRE c t _).mono ?_;rintro e w1 ⟨rfl,rfl⟩;go_wp2_with fail
 refine(aMq c _).mono ?_;rintro e w1 ⟨rfl,rfl⟩;go_wp2_with fail
 go_ret;exact(⟨rfl,Below.more (Below.more (Below.newly' _ _) _) _⟩:tF _ _ _)
theorem aGl (t a:Addr) (w:World):
  Calls Tryz.prog 110 #[.iface 120 (.agg #[.nilIface]),.iface 177 (.pointer (some t)),vP a,.iface 220 (.agg #[.pointer (some ⟨7,152,none⟩)])] w
   fun e w'=>tF w e w':=by
 have Xm:=@cJ Tryz.prog 145 _ ReflectliteType.typeOf Tryz.func145 uAu uAu uAu uAu;have Xn:=@cJ Tryz.prog 317 _ (ReflectliteType.relation "AssignableTo" ReflectliteType.assignableTo) Tryz.func317 uAu uAu uAu uAu;have f1:=yX;have f2:=kV;have f3:=aAG;have f4:=aSm;have f5:=zG;have f6:=un_l;have f7:=tZ;go_enter Tryz.func110,Tryz.ntmps110;go_wp2
 refine lL 1 ?_;rw[lE];go_wp2_with fail
 refine(aMr t _).mono ?_;rintro e w1 ⟨rfl,rfl⟩;go_wp2_with fail
 refine(aHJ _).mono ?_;rintro e w1 ⟨rfl,rfl⟩;go_wp2_with fail
 go_ret;exact(⟨rfl,Below.more (Below.more (Below.newly' _ _) _) _⟩:tF _ _ _)
end Go.Proofs.YthmfgidbcghnfaaGreatDoor
namespace Go.Proofs.YthmfgidbcghnfaaGreatDoor
open Go.RowKit Go.Shelf
def aQo {α:Type} (P:Program) (gf:Nat) (lb:Array Value) (kf:α->Array Value) (RK IK:Nat->World->World->Prop) (S Sp Pr:List α->Prop) (w0:World):Prop:=
 ∀(l:Nat) (J Jx:List α->World->Prop) (W:World),Below w0.heap.size w0 W->(∀s A B,J s A->IK W.heap.size A B->J s B)->
  (∀m pre x V,J pre V->W.heap.size+2<=V.heap.size->Pr (pre++[x])->YieldAt Fence.wide m P l (kf x) V fun e V'=>
   (e=.returned (.bool true)/\J (pre++[x]) V'/\RK W.heap.size V V')\/(e=.returned (.bool false)/\Jx (pre++[x]) V'))->
  J [] W->∀m,CallsIn Fence.wide m P gf (#[.func (.yield l) #[] #[]]++lb) W fun e W'=>(∃v,e=.returned v)/\((∃ys,S ys/\J ys W')\/(∃pre,Sp pre/\Jx pre W'))
def IterM {α:Type} (P:Program) (gf:Nat) (lb:Array Value) (kf:α->Array Value) (RK IK:Nat->World->World->Prop) (S Pr:List α->Prop) (w0:World):Prop:=
 ∀(l:Nat) (J:List α->World->Prop) (W:World),Below w0.heap.size w0 W->(∀s A B,J s A->IK W.heap.size A B->J s B)->
  (∀m pre x V,J pre V->W.heap.size+2<=V.heap.size->Pr (pre++[x])->YieldAt Fence.wide m P l (kf x) V fun e V'=>e=.returned (.bool true)/\J (pre++[x]) V'/\RK W.heap.size V V')->
  J [] W->∀m,CallsIn Fence.wide m P gf (#[.func (.yield l) #[] #[]]++lb) W fun e W'=>(∃v,e=.returned v)/\∃ys,S ys/\J ys W'
theorem aQo.n {α:Type} {P:Program} {gf:Nat} {lb:Array Value} {kf:α->Array Value} {RK IK:Nat->World->World->Prop} {S Sp Pr:List α->Prop} {w0:World} (h:aQo P gf lb kf RK IK S Sp Pr w0):IterM P gf lb kf RK IK S Pr w0:=fun l J W hW hA hY h0 m=>
 (h l J (fun _ _=>False) W hW hA (fun m pre x V a b c=>(hY m pre x V a b c).mono fun _ _ h=>.inl h) h0 m).mono fun _ _ ⟨h1,h2⟩=>⟨h1,h2.elim id fun⟨_,_,h⟩=>h.elim⟩
end Go.Proofs.YthmfgidbcghnfaaGreatDoor
namespace Go.Proofs.YthmfgidbcghnfaaGreatDoor
open Go.RowKit
structure aA4 where
 k:Int
 a:Int
 e:Int
 n:Int
 t:ByteArray
def tiC (x:aA4):Array Value:=#[.int .i64 x.k,.int .i64 x.a,.int .i64 x.e,.int .i64 x.n,.string x.t]
def TiL (w:World) (v:Value) (l:List aA4):Prop:=∃(a:Option Addr) (c b o:Nat),v=.slice a l.length c/\l.length<=maxLen/\(0<l.length->a=some ⟨b,o,none⟩)/\∀j (h:j<l.length),w.rangeAt b (o+j*5) (tiC l[j]).toList
theorem TiL.later {w w':World} {v:Value} {l:List aA4} (h:TiL w v l) (hb:Below w.heap.size w w'):TiL w' v l:=by
 obtain⟨a,c,b,o,h1,h2,h3,h4⟩:=h;exact⟨a,c,b,o,h1,h2,h3,fun j hj=>nJ (h4 j hj) hb⟩
end Go.Proofs.YthmfgidbcghnfaaGreatDoor
namespace Go.Proofs.YthmfgidbcghnfaaGreatDoor
open Go.RowKit Go.Shelf
theorem dM:(Tryz.prog.info? 127).map (·.size)=some 4:=by kernel_rfl
theorem aFz {S:Nat->Prop} {c:Array Value} {l:List Cel} (w:World) (h:cW S w c l):Calls Tryz.prog 63 #[.agg c] w fun e w'=>e=.returned (.int .i64 (l.length:Int))/\w'=w.alloc (.cells c 127):=by
 obtain⟨d,q1,n1,c1,q2,n2,c2,rfl,_⟩:=h.cells;clear h;go_enter Tryz.func63,Tryz.ntmps63;go_wp2
 go_ret;exact⟨rfl,rfl⟩
end Go.Proofs.YthmfgidbcghnfaaGreatDoor
namespace Go.Proofs.YthmfgidbcghnfaaGreatDoor
open Go.RowKit
theorem nW {ks:List Kid} {k:Nat} (hk:k<ks.length):eS ks=eS (ks.take k)++ks[k].l++eS (ks.drop (k+1)):=by
 rw[<-aA2 ks[k],<-lU,<-lU,<-bP hk,eD]
def WayAt (i:Nat) (ks:List Kid) (k r:Nat):Prop:=∃hk:k<ks.length,i=(eS (ks.take k)).length+r/\r<=ks[k].l.length/\(i<(eS ks).length->r<ks[k].l.length)
theorem aJ7 (w:World) {S:Nat->Prop} (h n i:Nat) (p:Kid) (ks:List Kid) (hh:dE S w 125 4 p.a (en (fY h) ks) n) (oe:ks.length=n) (tf:1<=n) (x6:n<=16) (hi:i<=(eS ks).length) (hN:(eS ks).length<=200000):
  Calls Tryz.prog 270 #[.agg (fY (h+1) p).toArray,.int .i64 (i:Int)] w fun e w'=>∃k r:Nat,e=.returned (.tuple #[.int .i64 (k:Int),.int .i64 (r:Int)])/\
   WayAt i ks k r/\Below w.heap.size w w':=by
 obtain⟨w1,ag⟩:∃w1,w.alloc (.cells (fY (h+1) p).toArray 125)=w1:=⟨_,rfl⟩
 obtain⟨af,ai,al⟩:=sL ag;obtain⟨g,c,aj,fr,el,jq,hS,hg,ep⟩:=hh.pos tf;have rm:w1.cell? ⟨w.heap.size,2,none⟩=some (.slice (some ⟨g,0,none⟩) n c):=by rw[<-el];exact aG ai rfl
 have zj:=(af.block g (gZ hg)).trans hg;have HC:Hid (∀k (hk:k<ks.length),w1.cell? ⟨g,k*4,none⟩=some (.int .i64 (ks[k].l.length:Int))):=fun k hk=>by
  have:=qZ (h:=h) zj ep hk 0 _ rfl;rwa[jV]at this
 have HB1:=iH af;have Q1:=iH (And.intro oe (And.intro tf hi));have HN:=iH hN;have BX:(n:Int)<=16:=by omega
 have MT:(i:Int)<=200000:=by omega
 clear hh oe tf x6 hi hN af ai al el jq hS hg ep zj;go_enter Tryz.func270,Tryz.ntmps270;go_upto_region 1 with fail
 clear ag;go_wp2_with fail
 go_loopw [1,6] (fun iv kv wr=>∃k r:Nat,kv=.int .i64 (k:Int)/\iv=.int .i64 (r:Int)/\k<n/\Hid (i=(eS (ks.take k)).length+r)/\w1=wr) (fun _ kv _=>n-(intOf kv).toNat)
 case atStart=>exact⟨0,i,rfl,rfl,by have:=Q1.out;omega,(by show _=_;simp[eS]),rfl⟩
 case round=>
  obtain⟨k,r,rfl,rfl,hk,HI,rfl⟩:=hrel;have oe:=Q1.out;have ei:k<ks.length:=by omega
  have hc:=HC.out k ei;have L6:=pP ei;have Je:=aU List.length (nW ei);rw[aB,aB]at Je;obtain⟨z,hz⟩:∃z,z=ks[k].l.length:=⟨_,rfl⟩
  rw[<-hz]at hc L6 Je;have yf:(r:Int)<=200000:=by have:=HI.out;omega
  have HZ:=iH hz;have Li:=iH Je;have od:=iH L6;have uh:(k:Int)<(n:Int):=by omega
  clear hz Je L6 oe;by_cases h1:k+1<n
  ·have nl:(k:Int)<(n:Int)-1:=by omega
   by_cases h2:z<=r
   ·have Hd:(r:Int)>=(z:Int):=by omega
    have IJ:(z:Int)<=(r:Int):=by omega
    obtain⟨d,hd⟩:∃d:Nat,(r:Int)-(z:Int)=d:=⟨r-z,by omega⟩
    have HD:Hid (r=z+d):=(by show _=_;omega)
    clear h2;go_wp2_with fail
    go_roundw
    case rel=>exact⟨k+1,d,by simp,by first|rfl|rw[hd],by omega,(by show _=_;have:=HI.out;have:=od.out;have:=HD.out;omega),trivial⟩
    case measure=>simp[intOf];omega
   ·have Hd:¬(r:Int)>=(z:Int):=by omega
    have IJ:¬(z:Int)<=(r:Int):=by omega
    have H2:=iH h2;clear h2;go_wp2_with fail
    go_ret2;exact⟨k,r,rfl,⟨ei,HI.out,by have:=H2.out;have:=HZ.out;omega,fun _=>by have:=H2.out;have:=HZ.out;omega⟩,HB1.out⟩
  ·have nl:¬(k:Int)<(n:Int)-1:=by omega
   go_wp2_with fail
   go_ret2;have oe:=Q1.out;have hd:eS (ks.drop (k+1))=[]:=by rw[gM hO];rfl
   have Je:=Li.out;rw[hd,aK]at Je;have hz:=HZ.out;have hI:=HI.out;exact⟨k,r,rfl,⟨ei,hI,by omega,fun h=>by omega⟩,HB1.out⟩
def wG (xs:List Tr) (i:Nat):Nat:=xs.countP fun x=>decide (gJ x=i+1)
theorem aIh (xs ys:List Tr) (i:Nat):wG (xs++ys) i=wG xs i+wG ys i:=by simp[wG,List.countP_append]
theorem aEX {xs ys:List Tr} (h:xs.Perm ys) (i:Nat):wG xs i=wG ys i:=h.countP_eq _
theorem aPP (x:Tr) (i:Nat):wG [x] i=if gJ x=i+1 then 1 else 0:=by simp[wG,List.countP_cons]
theorem aS6 (xs:List Tr) (i:Nat):wG xs i<=xs.length:=List.countP_le_length
theorem aIg {xs:List Tr} {i:Nat} (h:fP xs<=i):wG xs i=0:=by
 unfold wG;rw[List.countP_eq_zero];intro x hx;have:=zV hx;simp;omega
theorem aIb:∀{xs:List Tr},xs≠[]->∃x∈xs,gJ x=fP xs
 |[],h=>absurd rfl h
 |x::r,_=>by
  rw[fP];by_cases hr:r=[]
  ·subst hr
   exact⟨x,aZ ..,by simp[fP]⟩
  ·obtain⟨y,hy,e⟩:=aIb hr
   by_cases hx:fP r<=gJ x
   ·exact⟨x,aZ ..,by omega⟩
   ·exact⟨y,bF _ hy,by omega⟩
theorem aPO {xs:List Tr} (h:xs≠[]):0<wG xs (fP xs-1):=by
 obtain⟨x,hx,e⟩:=aIb h;unfold wG;rw[List.countP_pos_iff];have:=zU x;exact⟨x,hx,by simp;omega⟩
def tal (xs:List Tr):List Int:=(List.range (fP xs)).map fun i=>(wG xs i:Int)
theorem fM (xs:List Tr):(tal xs).length=fP xs:=by simp[tal]
theorem tP (xs:List Tr) (i:Nat):(tal xs).getD i 0=(wG xs i:Int):=by
 by_cases h:i<fP xs
 ·simp[tal,List.getD_eq_getElem?_getD,h]
 ·rw[List.getD_eq_getElem?_getD,List.getElem?_eq_none (by rw[fM];omega),aIg hO]
  rfl
theorem aFu {l:List Int} {xs:List Tr} (h1:l.length=fP xs) (h2:∀i,i<l.length->l.getD i 0=(wG xs i:Int)):l=tal xs:=by
 apply List.ext_getElem (by rw[h1,fM]);intro i hi hj;have:=(h2 i hi).trans (tP xs i).symm;rw[List.getD_eq_getElem?_getD,List.getD_eq_getElem?_getD,List.getElem?_eq_getElem hi,List.getElem?_eq_getElem hj]at this;exact this
theorem aBV {xs ys:List Tr} (h:xs.Perm ys):tal xs=tal ys:=
 aFu (by rw[fM,pH h]) fun i _=>by rw[tP,aEX h]
theorem aQO (x:Tr):tal [x]=List.replicate (gJ x-1) 0++[1]:=by
 have hp:=zU x;refine(aFu (by simp[fP];omega) fun i hi=> ?_).symm;rw[aPP];simp only[aB,nZ,cQ]at hi;rw[List.getD_eq_getElem?_getD];by_cases h:i<gJ x-1
 ·rw[List.getElem?_append_left uDu,if_neg hO]
  simp[h]
 ·rw[List.getElem?_append_right uCy,if_pos hO]
  simp[show i-(gJ x-1)=0 by omega]
def aCi (a b:List Int):List Int:=(List.range (max a.length b.length)).map fun i=>a.getD i 0+b.getD i 0
theorem wZ (a b:List Int):(aCi a b).length=max a.length b.length:=by simp[aCi]
theorem aEm (a b:List Int) {i:Nat} (h:i<max a.length b.length):(aCi a b).getD i 0=a.getD i 0+b.getD i 0:=by simp[aCi,List.getD_eq_getElem?_getD,h]
theorem aCh (xs ys:List Tr):aCi (tal xs) (tal ys)=tal (xs++ys):=
 aFu (by rw[wZ,fM,fM,sW]) fun i hi=>by
  rw[wZ]at hi;rw[aEm _ _ hi,tP,tP,aIh];omega
def qG (a b:List Int):List Int:=(List.range a.length).map fun i=>a.getD i 0-b.getD i 0
theorem aAt (a b:List Int):(qG a b).length=a.length:=by simp[qG]
theorem aEA (a b:List Int) {i:Nat} (h:i<a.length):(qG a b).getD i 0=a.getD i 0-b.getD i 0:=by simp[qG,List.getD_eq_getElem?_getD,h]
def oB (l:List Int):Nat->Nat
 |0=>0
 |n+1=>if l.getD n 0=0 then oB l n else n+1
theorem aGN (l:List Int):∀n,oB l n<=n
 |0=>aA _
 |n+1=>by rw[oB];split;exact aI (aGN l n) (oW _);exact aA _
theorem aBQ (l:List Int):∀n,0<oB l n->l.getD (oB l n-1) 0≠0
 |0,h=>by simp[oB]at h
 |n+1,h=>by
  rw[oB]at h ⊢;by_cases e:l.getD n 0=0
  ·rw[if_pos e]at h ⊢;exact aBQ l n h
  ·rw[if_neg e];exact e
theorem aEa (l:List Int):∀n i,oB l n<=i->i<n->l.getD i 0=0
 |0,_,_,h=>by omega
 |n+1,i,h1,h2=>by
  rw[oB]at h1;by_cases e:l.getD n 0=0
  ·rw[if_pos e]at h1
   by_cases hi:i=n
   ·subst hi;exact e
   ·exact aEa l n i h1 hO
  ·rw[if_neg e]at h1;omega
theorem aOT {xs ys zs:List Tr} (h:xs.Perm (ys++zs)):(qG (tal xs) (tal ys)).take (oB (qG (tal xs) (tal ys)) (tal xs).length)=tal zs:=by
 have hd:fP xs=max (fP ys) (fP zs):=by rw[pH h,sW]
 obtain⟨m,hm⟩:∃m,m=oB (qG (tal xs) (tal ys)) (tal xs).length:=⟨_,rfl⟩
 have dx:=aGN (qG (tal xs) (tal ys)) (tal xs).length;have ie:=aBQ (qG (tal xs) (tal ys)) (tal xs).length;have gq:=aEa (qG (tal xs) (tal ys)) (tal xs).length;rw[<-hm]at dx ie gq ⊢;rw[fM]at dx gq;have hg:∀i,i<fP xs->(qG (tal xs) (tal ys)).getD i 0=(wG zs i:Int):=fun i hi=>by
  rw[aEA _ _ (by rw[fM];exact hi),tP,tP,aEX h,aIh];omega
 have MU:m=fP zs:=by
  refine Nat.le_antisymm ?_ ?_
  ·rcases fN m with h0|h0
   ·omega
   ·have h1:=ie h0
    rw[hg _ hO]at h1;refine eE fun h2=> ?_
    rw[aIg hO]at h1;exact h1 rfl
  ·refine eE fun h2=> ?_
   have hz:zs≠[]:=fun e=>by subst e;simp[fP]at h2
   have h1:=aPO hz;have h3:=gq (fP zs-1) hO hO;rw[hg _ hO]at h3;omega
 refine aFu (by rw[bQ,aAt,fM];omega) fun i hi=> ?_
 rw[bQ,aAt,fM]at hi;rw[List.getD_eq_getElem?_getD,List.getElem?_take_of_lt hO,<-List.getD_eq_getElem?_getD];exact hg i hO
def TxV (w:World) (v:Value) (l:List ByteArray):Prop:=
 ∃(a:Option Addr) (cap b o:Nat),v=.slice a l.length cap/\(0<l.length->a=some ⟨b,o,none⟩)/\(∀j (h:j<l.length),w.cell? ⟨b,o+j,none⟩=some (.string l[j]))/\l.length<=maxLen
theorem TxV.later {w w':World} {v:Value} {l:List ByteArray} (h:TxV w v l) (hb:Below w.heap.size w w'):TxV w' v l:=by
 obtain⟨a,cap,b,o,h1,h2,h3,h4⟩:=h;exact⟨a,cap,b,o,h1,h2,fun j hj=>(hb.cell (aO w _ (h3 j hj))).trans (h3 j hj),h4⟩
abbrev trC (k n:Int) (t:ByteArray) (kv xv:Value):Array Value:=#[.int .i64 k,.int .i64 n,.string t,kv,xv]
mutual
def TrV (w:World):Tr->Value->Prop
 | .nd k n t ks xs,v=>∃kv xv,v=.agg (trC k n t kv xv)/\t.size<=maxLen/\InR k/\InR n/\TxV w kv ks/\∃(a:Option Addr) (cap b o:Nat),xv=.slice a xs.length cap/\(0<xs.length->a=some ⟨b,o,none⟩)/\xs.length<=maxLen/\TrL w xs b o
def TrL (w:World):List Tr->Nat->Nat->Prop
 |[],_,_=>True
 |x::r,b,o=>(∃cs:Array Value,cs.size=5/\w.rangeAt b o cs.toList/\TrV w x (.agg cs))/\TrL w r b (o+5)
end
theorem aFp {w:World}:∀{xs:List Tr} {b o j:Nat} (_:TrL w xs b o) (hj:j<xs.length),∃cs:Array Value,cs.size=5/\w.rangeAt b (o+j*5) cs.toList/\TrV w xs[j] (.agg cs)
 |[],_,_,_,_,hj=>by simp at hj
 |x::r,b,o,0,h,_=>by rw[TrL]at h;simpa using h.1
 |x::r,b,o,j+1,h,hj=>by
  rw[TrL]at h;have:=aFp (j:=j) h.2 uGu;rw[show o+(j+1)*5=o+5+j*5 by omega];simpa using this
theorem aBR {w:World}:∀{xs:List Tr} {b o:Nat},(∀j (hj:j<xs.length),∃cs:Array Value,cs.size=5/\w.rangeAt b (o+j*5) cs.toList/\TrV w xs[j] (.agg cs))->TrL w xs b o
 |[],_,_,_=>by rw[TrL];trivial
 |x::r,b,o,h=>by
  rw[TrL];refine⟨?_,aBR fun j hj=> ?_⟩
  ·obtain⟨cs,h1,h2,h3⟩:=h 0 uAy
   exact⟨cs,h1,by simpa using h2,h3⟩
  have:=h (j+1) uGu;rw[show o+(j+1)*5=o+5+j*5 by omega]at this;simpa using this
theorem aLC {w w':World} (hb:Below w.heap.size w w') (a:Tr):∀v,TrV w a v->TrV w' a v:=by
 induction a using kD with
 |h k n t ks xs ih=>
  intro v hv;rw[TrV]at hv ⊢;obtain⟨kv,xv,h1,h2,h3,h4,h5,a,cap,b,o,h6,h7,h8,h9⟩:=hv;refine⟨kv,xv,h1,h2,h3,h4,h5.later hb,a,cap,b,o,h6,h7,h8,aBR fun j hj=> ?_⟩;obtain⟨cs,c1,c2,c3⟩:=aFp h9 hj;exact⟨cs,c1,fun i v hv=>(hb.cell (aO w _ (c2 i v hv))).trans (c2 i v hv),ih _ (aX hj) _ c3⟩
theorem TrV.later {w w':World} {a:Tr} {v:Value} (h:TrV w a v) (hb:Below w.heap.size w w'):TrV w' a v:=aLC hb a v h
theorem TrV.open' {w:World} {k n:Int} {t:ByteArray} {ks:List ByteArray} {xs:List Tr} {v:Value} (h:TrV w (.nd k n t ks xs) v):
  ∃kv xv,v=.agg (trC k n t kv xv)/\t.size<=maxLen/\InR k/\InR n/\TxV w kv ks/\∃(a:Option Addr) (cap b o:Nat),xv=.slice a xs.length cap/\(0<xs.length->a=some ⟨b,o,none⟩)/\xs.length<=maxLen/\∀j (hj:j<xs.length),∃cs:Array Value,cs.size=5/\w.rangeAt b (o+j*5) cs.toList/\TrV w xs[j] (.agg cs):=by
 rw[TrV]at h;obtain⟨kv,xv,h1,h2,h3,h4,h5,a,cap,b,o,h6,h7,h8,h9⟩:=h;exact⟨kv,xv,h1,h2,h3,h4,h5,a,cap,b,o,h6,h7,h8,fun j hj=>aFp h9 hj⟩
end Go.Proofs.YthmfgidbcghnfaaGreatDoor
