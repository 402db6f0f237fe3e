import Derived.Test.YthmfgidbcghnfaaGreatDoorQ0
import Derived.Test.YthmfgidbcghnfaaGreatDoorQ6
set_option maxRecDepth 1000000
set_option maxHeartbeats 8000000
set_option linter.unusedSimpArgs false
namespace Go.Proofs.YthmfgidbcghnfaaGreatDoor
open Go.RowKit
inductive Ch (B:Nat) (w:World):Value->Option Int->List Int->Prop
 |code (c:Int): -9223372036854775808<=c/\c<=9223372036854775807->Ch B w (.iface 31 (.int .i64 c)) (some c) []
 |bare (b:Nat) (n:Int):b<B→ -9223372036854775808<=n/\n<=9223372036854775807->w.cell? ⟨b,0,none⟩=some (.int .i64 n)->w.cell? ⟨b,1,none⟩=some .nilIface->Ch B w (.iface 152 (.pointer (some ⟨b,0,none⟩))) none [n]
 |put (b:Nat) (n:Int) (u:TypeId) (x:Value) (c:Option Int) (l:List Int):b<B→ -9223372036854775808<=n/\n<=9223372036854775807->w.cell? ⟨b,0,none⟩=some (.int .i64 n)->w.cell? ⟨b,1,none⟩=some (.iface u x)->
  Ch B w (.iface u x) c l->Ch B w (.iface 152 (.pointer (some ⟨b,0,none⟩))) c (n::l)
theorem Ch.later {B B':Nat} {w w':World} {E:Value} {c:Option Int} {l:List Int} (h:Ch B w E c l) (hb:Below B w w') (hB:B<=B'):Ch B' w' E c l:=by
 induction h with
 |code c hc=>exact .code c hc
 |bare b n h1 h2 h3 h4=>exact .bare b n (bK h1 hB) h2 ((hb.cell (p:=⟨b,0,none⟩) h1).trans h3) ((hb.cell (p:=⟨b,1,none⟩) h1).trans h4)
 |put b n u x c l h1 h2 h3 h4 _ ih=>exact .put b n u x c l (bK h1 hB) h2 ((hb.cell (p:=⟨b,0,none⟩) h1).trans h3) ((hb.cell (p:=⟨b,1,none⟩) h1).trans h4) ih
theorem Ch.iface {B:Nat} {w:World} {E:Value} {c:Option Int} {l:List Int} (h:Ch B w E c l):∃u x,E=.iface u x:=by cases h<;>exact⟨_,_,rfl⟩
theorem Ch.unique {B:Nat} {w:World} {E:Value} {c c':Option Int} {l l':List Int} (h:Ch B w E c l) (h':Ch B w E c' l'):l=l':=by
 induction h generalizing l' with
 |code c hc=>cases h';rfl
 |bare b n h1 h2 h3 h4=>
  cases h' with
  |bare _ n' _ _ tm _=>rw[h3]at tm;cases tm;rfl
  |put _ n' u x _ _ _ _ _ gn _=>rw[h4]at gn;cases gn
 |put b n u x c l h1 h2 h3 h4 _ ih=>
  cases h' with
  |bare _ n' _ _ tm gn=>rw[h4]at gn;cases gn
  |put _ n' u' x' _ l2 _ _ tm gn T3=>
   rw[h3]at tm;cases tm
   rw[h4]at gn;cases gn
   rw[ih T3]
open Classical in
noncomputable def wI (B:Nat) (w:World) (E:Value):Nat:=if h:∃c l,Ch B w E c l then h.choose_spec.choose.length else 0
theorem aD8 {B:Nat} {w:World} {E:Value} {c:Option Int} {l:List Int} (h:Ch B w E c l):wI B w E=l.length:=by
 unfold wI;have hex:∃c l,Ch B w E c l:=⟨c,l,h⟩
 rw[dif_pos hex,Ch.unique hex.choose_spec.choose_spec h]
noncomputable def lkLen (B:Nat) (w:World):Value->Nat
 | .iface _ (.agg cs)=>wI B w (cs.getD 0 .nilIface)
 |_=>0
theorem aGi {B:Nat} {w w':World} (hb:Below B w w') (a:Addr) (h:a.block<B):w'.frozen? a=w.frozen? a:=World.frozen?_of_block (hb.block a.block h)
theorem Ch.but {B T:Nat} {w w':World} {E x:Value} {c:Option Int} {l:List Int} (h:Ch B w E c l) (hT:w.cell? ⟨T,0,none⟩=some x) (hx:∀n,x≠.int .i64 n) (hg:w.grownBy w' (some T)):Ch B w' E c l:=by
 have key:∀b n,w.cell? ⟨b,0,none⟩=some (.int .i64 n)->∀i v,w.cell? ⟨b,i,none⟩=some v->w'.cell? ⟨b,i,none⟩=some v:=by
  intro b n h1 i v h2;refine hg.cell h2 (fun e=> ?_);simp only[bA]at e;subst e;rw[h1]at hT;exact hx n (aH hT).symm
 induction h with
 |code c hc=>exact .code c hc
 |bare b n h1 h2 h3 h4=>exact .bare b n h1 h2 (key b n h3 0 _ h3) (key b n h3 1 _ h4)
 |put b n u x c l h1 h2 h3 h4 _ ih=>exact .put b n u x c l h1 h2 (key b n h3 0 _ h3) (key b n h3 1 _ h4) ih
def rF (w:World) (t:Addr) (c:Option Int) (e:Ending) (w':World):Prop:=
 (∃k,c=some k/\e=.returned (.bool true)/\∃w2,Below w.heap.size w w2/\w'=w2.setCell t (.int .i64 k))\/(c=none/\e=.returned (.bool false)/\Below w.heap.size w w')
theorem rF.after {w w1:World} {t:Addr} {c:Option Int} {e:Ending} {w':World} (h:rF w1 t c e w') (hb:Below w.heap.size w w1):rF w t c e w':=by
 rcases h with⟨k,h1,h2,w2,h3,h4⟩|⟨h1,h2,h3⟩
 ·exact Or.inl ⟨k,h1,h2,w2,tW hb h3,h4⟩
 ·exact Or.inr ⟨h1,h2,tW hb h3⟩
def ET (w:World):Prop:=w.cell? ⟨0,0,none⟩=some (.iface 220 (.agg #[.pointer (some ⟨7,45,none⟩)]))
theorem ET.below {w w':World} (h:ET w) (hb:Below w.heap.size w w'):ET w':=
 (hb.cell (p:=⟨0,0,none⟩) (aO w ⟨0,0,none⟩ h)).trans h
def wO (x:TkR):Prop:=(x.k=1/\x.n=0/\x.t∈gE)\/(x.k=2/\x.n=0/\aCw x.t=true)\/(x.k=3/\InR x.n/\x.t=[])\/(x.k=4/\x.n=0)
def Tok.r (t:Tok):TkR:=⟨t.k,t.n,t.t⟩
theorem aSW {α:Type} (p:α->Bool) (l:List α):(l.takeWhile p).all p=true:=by
 induction l with
 |nil=>rfl
 |cons c r ih=>
  rw[dZ];split
  ·rename_i h;rw[jW,h,ih];rfl
  ·rfl
theorem aKZ {n:Int} (h:(chk n).2=0):InR (chk n).1:=by
 by_cases hn:InR n
 ·rw[sB hn];exact hn
 ·rw[oN hn]at h;exact absurd h uAv
theorem aM8 (l:List UInt8) (h:(eO l).2=0):InR (eO l).1:=by
 cases l with
 |nil=>simp[eO]at h
 |cons c r=>
  unfold eO at h ⊢;simp only at h ⊢
  repeat' split at h
  all_goals first
   |(simp at h;done)
   |skip
  ·rename_i h1 h2 h3
   rw[if_pos h1,if_neg h2,if_pos h3];unfold gK at h ⊢;exact aKZ h
  ·rename_i h1 h2
   rw[if_neg h1,if_pos h2];unfold gK at h ⊢;exact aKZ h
theorem aLF (r:List UInt8) (h:(mQ r).2.2=0) (hr:r≠[]):wO (mQ r).1:=by
 cases r with
 |nil=>exact absurd rfl hr
 |cons c r=>
  rw[iR]at h ⊢;split at h
  ·rename_i h1
   rw[if_pos h1];split at h
   ·rename_i h2
    rw[if_pos h2];exact .inr (.inr (.inr ⟨rfl,rfl⟩))
   ·rename_i h2;exact absurd h h2
  ·rename_i h1
   rw[if_neg h1];split at h
   ·rename_i h2
    rw[if_pos h2];split at h
    ·rename_i h3
     rw[if_pos h3];exact .inr (.inr (.inl ⟨rfl,aM8 _ h3,rfl⟩))
    ·rename_i h3;exact absurd h h3
   ·rename_i h2
    rw[if_neg h2];split at h
    ·rename_i h3
     rw[if_pos h3];refine .inr (.inl ⟨rfl,rfl,?_⟩);have hn:nbS c=true:=by unfold nbS;rw[h3];rfl
     show aCw ((c::r).takeWhile nbS)=true;rw[dZ,if_pos hn];show(uW c&&(r.takeWhile nbS).all nbS)=true;rw[h3,lF];exact aSW nbS r
    ·rename_i h3
     rw[if_neg h3];split at h
     ·rename_i x hx
      exact .inl ⟨rfl,rfl,(aC1 hx).2.2.1⟩
     ·exact absurd h uAv
theorem aEu (l:List UInt8) (p:Nat) (h:(cB l p).2.2=0) (hk:(cB l p).1.k≠0):wO (cB l p).1.r:=by
 unfold cB at h hk ⊢;simp only at h hk ⊢;split at h
 ·rename_i h0
  rw[if_pos h0]at hk ⊢;refine aLF _ h0 fun e=>hk ?_
  rw[e];rfl
 ·rename_i h0;exact absurd h h0
theorem aEF (n:Int):∃c t,Lib.itoa n=c::t/\(c.toNat=45\/iM c=true)/\t.all iM=true/\c.toNat≠34/\uI c=false:=by
 have hd:∀c,iM c=true->c.toNat≠34/\uI c=false:=fun c h=>by
  unfold iM at h;have:=of_decide_eq_true h;refine⟨by omega,dB hO⟩
 have ha:∀u:Nat,∃c t,Lib.decDigits u=c::t/\iM c=true/\t.all iM=true:=fun u=>by
  have h1:=aBB u;cases h:Lib.decDigits u with
  |nil=>exact absurd h (aPF u)
  |cons c t=>
   rw[h,jW,eQ]at h1;exact⟨c,t,rfl,h1.1,h1.2⟩
 unfold Lib.itoa;split
 ·obtain⟨c,t,h,h1,h2⟩:=ha (-n).toNat
  refine⟨45,_,rfl,.inl rfl,?_,by decide,by decide⟩;first
   |(rw[h,jW,h1,h2];rfl)
   |exact aBB _
 ·obtain⟨c,t,h,h1,h2⟩:=ha n.toNat
  exact⟨c,t,h,.inr h1,h2,(hd c h1).1,(hd c h1).2⟩
theorem aBx (l:List UInt8) (p:Nat) (b:Bool) (r:List UInt8) (h:l.drop p=(if b then[32]else[])++r) (hr:∀c t,r=c::t->uI c=false):
  cB l p=if(mQ r).2.2=0 then(gS (p+(if b then 1 else 0)) (mQ r).1 (mQ r).2.1,0,0)else(⟨0,0,0,0,[]⟩,p+(if b then 1 else 0)+(mQ r).2.1,(mQ r).2.2):=by
 have hz:∀r:List UInt8,(∀c t,r=c::t->uI c=false)->r.takeWhile uI=[]:=fun r hr=>by
  cases r with
  |nil=>rfl
  |cons c t=>rw[dZ,if_neg (by rw[hr c t rfl];decide)]
 have hb:nF (l.drop p)=if b then 1 else 0:=by
  unfold nF;rw[h];cases b
  ·rw[if_neg uAv,aT,hz r hr];rfl
  ·rw[if_pos rfl,aP,aT,dZ,if_pos uAv,hz r hr];rfl
 have hd:l.drop (p+nF (l.drop p))=r:=by
  rw[<-gH,hb,h];cases b<;>rfl
 unfold cB;simp only;rw[hd,hb]
theorem tY (s:ByteArray):s.data.toList.length=s.size:=by simp
theorem aFT (s:ByteArray) (k:Nat) (h:k<s.size):s.data.toList.getD k 0=s[k]:=by
 rw[List.getD_eq_getElem?_getD,List.getElem?_eq_getElem uDu];rfl
theorem aHB (s:ByteArray) (k:Nat):(s.extract k s.size).data.toList=s.data.toList.drop k:=by
 simp;rw[bC uAy]
theorem aAU (s:ByteArray) (k:Nat):(s.extract k s.size).size=s.size-k:=by simp
theorem aQW (c:UInt8) (k:Nat) (hk:k<=7):IntKind.u64.wrap (IntKind.u64.wrap (c.toNat:Int)*2^(8*(7-k)))=((c.toNat*2^(8*(7-k)):Nat):Int):=by
 have hc:c.toNat<256:=c.toNat_lt;have h:=aGf c k hk;rw[aFH,jL,jL,show((c.toNat:Int) % 18446744073709551616)=(c.toNat:Int) by omega,<-Int.natCast_mul];omega
theorem aQs (l:List UInt8) (k:Nat) (c:UInt8) (hk:k<=7) (hc:l.getD k 0=c):
  bits .or .u64 (wd l k:Int) (IntKind.u64.wrap (IntKind.u64.wrap (c.toNat:Int)*2^(8*(7-k))))=(wd l (k+1):Int):=by
 rw[aQW c k hk,bits_or_u64_nat _ _ (aNo l k hO) (aGf c k hk),<-hc];rfl
theorem aOA (s:ByteArray) (hs:s.size<=maxLen) (w:World):
  Calls Tryz.prog 215 #[.string s] w fun e w'=>e=.returned (.int .u64 (wd s.data.toList (min s.size 8):Nat))/\w=w':=by
 unfold maxLen at hs;go_enter Tryz.func215,Tryz.ntmps215;go_wp2_with fail
 go_loop [3,8] (fun v n=>∃i:Nat,i<=s.size/\i<=8/\n=.int .i64 i/\v=.int .u64 (wd s.data.toList i:Nat)) (fun _ n=>8-(intOf n).toNat)
 case atStart=>exact⟨0,aS _,aS _,rfl,rfl⟩
 case round=>
  obtain⟨i,hi,h9,rfl,rfl⟩:=hrel;by_cases h1:i<8/\i<s.size
  ·obtain⟨h1,h2⟩:=h1
   have HS:=eU (aQs s.data.toList i s[i] hO (aFT s i h2));go_wp2
   go_round
   case rel=>exact⟨i+1,by omega,by omega,by go_num,by rw[HS.out]⟩
   case measure=>simp[intOf];omega
  ·have e:Hid (i=min s.size 8):=by show _=_;omega
   go_wp2
   go_ret;exact⟨tS (by rw[e.out]),rfl⟩
theorem aOC (nz:Nat) (s:ByteArray) (Jh:nz<18446744073709551616) (hz:s.size<=9223372036854775800) (w:World):
  Calls Tryz.prog 177 #[.int .u64 (nz:Int),.string s] w fun e w'=>e=.returned (.int .u64 (aNC nz s.data.toList:Nat))/\w=w':=by
 have H0:=eU (fun w=>aHD nz s.size Jh hO w);have hc:IntKind.u64.wrap (s.size:Int)=(s.size:Int):=by rw[jL];omega
 clear Jh;go_enter Tryz.func177,Tryz.ntmps177;go_wp2_with fail
 refine(H0.out w).mono ?_;rintro e w1 ⟨rfl,rfl⟩;go_wp2_with fail
 go_loop [5,6] (fun v n=>∃a j:Nat,Hid (a=8*j)/\a<=s.size+7/\n=.int .i64 a/\v=.int .u64 (hs nz s.data.toList j:Nat)) (fun _ n=>s.size+7-(intOf n).toNat)
 case atStart=>exact⟨0,0,rfl,aS _,rfl,by rw[hs,tY]⟩
 case round=>
  obtain⟨a,j,HJ,ha,rfl,rfl⟩:=hrel;by_cases h1:a<s.size
  ·have HW:=eU (fun w=>aOA (s.extract a s.size) (by rw[aAU];unfold maxLen;omega) w)
   rw[aHB,aAU]at HW;obtain⟨x,hx⟩:∃x,x=wd (s.data.toList.drop a) (min (s.size-a) 8):=⟨_,rfl⟩
   rw[<-hx]at HW;have HX:Hid (x=wd (s.data.toList.drop (8*j)) (min (s.data.toList.length-8*j) 8)):=by show _=_;rw[tY,<-HJ.out];exact hx
   have HS:=eU (fun w=>aHD (hs nz s.data.toList j) x (aSG _ _ _) (hx▸aNo _ _ hO) w);clear hx;go_wp2_with fail
   refine(HW.out _).mono ?_;rintro e w1 ⟨rfl,rfl⟩;go_wp2_with fail
   refine(HS.out _).mono ?_;rintro e w1 ⟨rfl,rfl⟩;go_wp2_with fail
   go_round
   case rel=>exact⟨a+8,j+1,by show _=_;have:=HJ.out;omega,by omega,by go_num,by rw[HX.out];rfl⟩
   case measure=>simp[intOf];omega
  ·have HE:=eU (fun w=>aRq (hs nz s.data.toList j) (aSG _ _ _) w)
   have e:Hid (j=(s.data.toList.length+7)/8):=by show _=_;rw[tY];have:=HJ.out;omega
   go_wp2_with fail
   refine(HE.out _).mono ?_;rintro e w1 ⟨rfl,rfl⟩;go_wp2_with fail
   go_ret;exact⟨tS (by rw[e.out];rfl),rfl⟩
def nx (l:List UInt8) (b:Nat):Tok×Nat×Int:=
 if(mQ (l.drop b)).2.2=0 then(gS b (mQ (l.drop b)).1 (mQ (l.drop b)).2.1,0,0)else(⟨0,0,0,0,[]⟩,b+(mQ (l.drop b)).2.1,(mQ (l.drop b)).2.2)
theorem aRn (l:List UInt8) (p:Nat):cB l p=nx l (p+nF (l.drop p)):=rfl
theorem aTg (l:List UInt8) (b:Nat) (h:l.length<=b):nx l b=(⟨0,b,b,0,[]⟩,0,0):=by
 unfold nx;rw[kY h];simp[mQ,gS,zTk]
theorem aAz (s:ByteArray) (b:Nat) (h:b<s.size):s.data.toList.drop b=s[b]::s.data.toList.drop (b+1):=by
 have hl:=cY s;rw[lW (show b<s.data.toList.length by omega)];rfl
theorem aRi (s:ByteArray) (b:Nat) (h:b<s.size) (hc:s[b].toNat=34):nx s.data.toList b=
  if(cF (s.data.toList.drop b)).2.2=0 then(⟨4,b,b+(cF (s.data.toList.drop b)).2.1,0,(cF (s.data.toList.drop b)).1⟩,0,0)else(⟨0,0,0,0,[]⟩,b+(cF (s.data.toList.drop b)).2.1,(cF (s.data.toList.drop b)).2.2):=by
 unfold nx;rw[aAz s b h,iR,if_pos hc];by_cases he:(cF (s[b]::s.data.toList.drop (b+1))).2.2=0
 ·rw[if_pos he,if_pos rfl,if_pos he];rfl
 ·rw[if_neg he,if_neg he,if_neg he]
theorem aOq (s:ByteArray) (b:Nat) (h:b<s.size) (h34:s[b].toNat≠34) (hc:s[b].toNat=45\/iM s[b]=true):nx s.data.toList b=aRk s.data.toList b:=by
 have ht:(s.data.toList.drop b).take (((s.data.toList.drop (b+1)).takeWhile iM).length+1)=s[b]::(s.data.toList.drop (b+1)).takeWhile iM:=by
  rw[aAz s b h,dC,<-aRw]
 unfold nx aRk;simp only;rw[ht,aAz s b h,iR,if_neg h34,if_pos hc];by_cases he:(eO (s[b]::(s.data.toList.drop (b+1)).takeWhile iM)).2=0
 ·rw[if_pos he,if_pos rfl,if_pos he];simp only[gS,aA8]
 ·rw[if_neg he,if_neg he,if_neg he];simp
theorem aRh (s:ByteArray) (b k:Nat) (h:b<s.size) (hl:uW s[b]=true) (h0:b<=k) (h1:k<=s.size) (ha:∀j (h:j<s.size),b<=j->j<k->nbS s[j]=true) (he:k=s.size\/∃h:k<s.size,nbS s[k]=false):
  b<k/\nx s.data.toList b=(⟨2,b,k,0,(s.extract b k).data.toList⟩,0,0):=by
 have hn:nbS s[b]=true:=by unfold nbS;rw[hl];rfl
 have jf:b<k:=by
  rcases eB b k with h|h2
  ·exact h
  ·obtain rfl:b=k:=by omega
   rcases he with e|⟨_,e⟩
   ·omega
   ·rw[hn]at e;cases e
 obtain⟨h2,h3⟩:=aFl nbS s b k h0 h1 ha he;have hd:=of_decide_eq_true (show decide (97<=s[b].toNat/\s[b].toNat<=122\/65<=s[b].toNat/\s[b].toNat<=90\/s[b].toNat=95)=true from hl);have Ji:¬(s[b].toNat=45\/iM s[b]=true):=fun h=>h.elim hO (fun h=>by unfold iM at h;have:=of_decide_eq_true h;omega)
 have h34:¬s[b].toNat=34:=by omega
 refine⟨jf,?_⟩;rw[aKP,<-h2];rw[aAz s b h]at h3 ⊢;unfold nx;rw[aAz s b h,iR,if_neg h34,if_neg Ji,if_pos hl,if_pos rfl];simp only[gS];rw[h3,show b+(k-b)=k by omega]
theorem aRj (s:ByteArray) (b:Nat) (h:b<s.size) (h34:s[b].toNat≠34) (hn:¬(s[b].toNat=45\/iM s[b]=true)) (hl:uW s[b]=false):nx s.data.toList b=
  match gE.find? fun x=>x.isPrefixOf (s.data.toList.drop b)with
  |some x=>(⟨1,b,b+x.length,0,x⟩,0,0)
  |none=>(⟨0,0,0,0,[]⟩,b,2):=by
 have qw:¬uW s[b]=true:=by rw[hl];decide
 unfold nx;rw[aAz s b h,iR,if_neg h34,if_neg hn,if_neg qw];cases gE.find? fun x=>x.isPrefixOf (s[b]::s.data.toList.drop (b+1))with
 |none=>simp
 |some x=>simp[gS]
theorem aI0 {α:Type} (p:α->Bool):∀(l:List α) (i:Nat) (hi:i<l.length),(∀j (h:j<l.length),j<i->p l[j]=false)->p l[i]=true->l.find? p=some l[i]
 |[],i,hi,_,_=>by simp at hi
 |a::l,0,_,_,h=>by rw[List.find?_cons];simp only[aBI]at h ⊢;rw[h]
 |a::l,i+1,hi,hj,h=>by
  have h0:p a=false:=hj 0 uAy hO;rw[List.find?_cons,h0];simp only[nO]at h ⊢;exact aI0 p l i (by simpa using hi) (fun j h1 h2=>hj (j+1) (by simpa using h1) hO) h
theorem aRS {α:Type} (p:α->Bool) (l:List α) (h:∀j (_:j<l.length),p l[j]=false):l.find? p=none:=by
 rw[List.find?_eq_none];intro x hx;obtain⟨j,hj,rfl⟩:=List.getElem_of_mem hx;rw[h j hj];decide
theorem aQa (s:ByteArray) (p k:Nat) (h0:p<=k) (h1:k<=s.size) (ha:∀j (h:j<s.size),p<=j->j<k->uI s[j]=true) (he:k=s.size\/∃h:k<s.size,uI s[k]=false):cB s.data.toList p=nx s.data.toList k:=by
 have h:=(aFl uI s p k h0 h1 ha he).2;rw[aRn];unfold nF;rw[h,show p+(k-p)=k by omega]
def SgAt (w:World) (g:Nat):Prop:=∀j (h:j<23),w.cell? ⟨g,j,none⟩=some (.string ⟨(gE[j]'(by simpa[gE]using h)).toArray⟩)
theorem SgAt.later {w w':World} {g:Nat} (h:SgAt w g) (hb:Below w.heap.size w w'):SgAt w' g:=fun j hj=>(hb.cell (aO w _ (h j hj))).trans (h j hj)
def sgC:Array Value:=#[.string ⟨#[46,46]⟩,.string ⟨#[61,61]⟩,.string ⟨#[33,61]⟩,.string ⟨#[60,61]⟩,.string ⟨#[62,61]⟩,.string ⟨#[38,38]⟩,.string ⟨#[124,124]⟩,.string ⟨#[91]⟩,.string ⟨#[93]⟩,.string ⟨#[123]⟩,.string ⟨#[125]⟩,.string ⟨#[60]⟩,.string ⟨#[62]⟩,.string ⟨#[40]⟩,.string ⟨#[41]⟩,.string ⟨#[44]⟩,.string ⟨#[58]⟩,.string ⟨#[46]⟩,.string ⟨#[42]⟩,.string ⟨#[63]⟩,.string ⟨#[33]⟩,.string ⟨#[36]⟩,.string ⟨#[64]⟩]
section
variable {P : Program} {md : Region.Mode} {ops : Array Oper} {Q : Exit → Act → World → Prop}
theorem aLT {F:Fence} {n l:Nat} (hF:F=Fence.wide.inRound l) {row:String} {args:Array Value} {w:World} {R:Value->World->Prop} (h:Rows P row args w R):RowsIn F n P row args w R:=fun c cs _=>by
 subst hF;obtain⟨v,w',r,s⟩:=h c cs;exact⟨v,w',r,stepsIn_wide.2 s⟩
theorem aAL {n l:Nat} {o:Oper} {a:Act} {w:World} {K:Act->World->Prop} (hd:∀c,o.op≠.defer c) (h:o.wp P a w K Q):o.wpIn (Fence.wide.inRound l) n P a w K Q:=by
 unfold Oper.wpIn;refine⟨fun _ _=>trivial,?_⟩;rw[Oper.semAt_eq _ _ _ hd];unfold Oper.wp at h;generalize(execOp a.eval o).run P w=r at h ⊢;cases r with
 |ok x w'=>
  cases x with
  |value v=>exact h
  |skip=>exact h
  |defer d=>exact h
  |enter f args=>exact⟨fun hh=>by simp[Fence.wide]at hh,CallsIn.inRound l (dD.2 h)⟩
  |row row args=>exact⟨fun hh=>by simp[Fence.wide]at hh,aLT rfl h⟩
  |_=>exact h.elim
 |halt x w'=>
  cases x with
  |panic v=>exact h
  |_=>exact h.elim
theorem aQq {n l i:Nat} {a:Act} {w:World} {K:Act->World->Prop} (hd:∀(j:Nat) (o:Oper),ops[j]? =some o->∀c,o.op≠.defer c) (hq:¬LetsOut Q) (h:wpOp P ops Q i K a w):wpOpIn (Fence.wide.inRound l) n P ops Q i K a w:=by
 unfold wpOp at h;unfold wpOpIn;cases ho:ops[i]? with
 |none=>rw[ho]at h;exact h
 |some o=>
  rw[ho]at h;simp only at h ⊢;split at h
  ·rename_i hw
   rw[if_pos hw];rcases h with h|h
   ·exact aAL (hd i o ho) h
   ·exact absurd h.2 hq
  ·rename_i hw
   rw[if_neg hw];exact⟨fun _ _=>trivial,h⟩
theorem aGC {n l:Nat} (hd:∀(j:Nat) (o:Oper),ops[j]? =some o->∀c,o.op≠.defer c) (hq:¬LetsOut Q):
  ∀(fuel:Nat) (listed:Array Bool) (a:Act) (w:World),wpAny P md ops Q fuel listed a w->wpAnyIn (Fence.wide.inRound l) n P md ops Q fuel listed a w
 |0,_,_,_,h=>h
 |fuel+1,listed,a,w,h=>⟨h.1,fun i hi=>by
  have:=aQq (n:=n) (l:=l) hd hq (h.2 i hi);refine wpOpIn_mono (fun a' w' h'=> ?_) this;exact aGC hd hq fuel _ a' w' h'⟩
def aFR (ops:Array Oper):Bool:=ops.toList.all fun o=>match o.op with| .defer _=>false|_=>true
theorem aOt (h:aFR ops=true):∀(j:Nat) (o:Oper),ops[j]? =some o->∀c,o.op≠.defer c:=by
 intro j o ho c hc;unfold aFR at h;rw[lI]at h;have:=h o (by rw[<-Array.getElem?_toList]at ho;exact fK ho);rw[hc]at this;cases this
theorem rN {S:World->Prop} {n l id:Nat} {a:Act} {w:World} (U:List Nat) (hm:P.follows .mixedOrders=true) (hd:aFR ops=true) (hq:¬LetsOut Q) (hS:S w.drew)
  (h:S w.drew->eL P .any ops Q S U ops.size (Array.replicate ops.size false) a w.drew):(Code.region id ops true).wpIn (Fence.wide.inRound l) n P Q a w:=
 wpIn_region_any hm (aGC (aOt hd) hq _ _ _ _ (yD _ _ _ _ (h hS)))
theorem uA {n l:Nat} {rest:List Oper} {o:Oper} {a:Act} {w:World} (fj:o.guard=none) (hd:∀c,o.op≠.defer c)
  (h:∀K:Act->World->Prop,(∀a w,wpListIn (Fence.wide.inRound l) n P ops Q rest a w->K a w)->o.wp P a w K Q):wpListIn (Fence.wide.inRound l) n P ops Q (o::rest) a w:=
 aF6 fj fun K hK=>aAL hd (h K hK)
end
theorem aKA {ops:Array Oper} {rest:List Oper} {o:Oper} {a:Act} {w:World} {Q:Exit->Act->World->Prop} {n l:Nat} (fj:o.guard=none) (ty:TypeId) (x:Operand) (ho:o.op=.load ty x)
  (X:Nat) (hx:a.eval x=.pointer (some ⟨X,0,none⟩)) (T:TypeId) (c:Array Value) (fr:Nat×Nat) (d:TypeDesc) (hB:w.heap[X]? =some (.cells c T fr))
  (hu:Tryz.prog.underlying ty=some d) (hd:d.isRow=true) (hi:(Tryz.prog.info? ty).map (·.size)=some c.size)
  (h:wpListIn (Fence.wide.inRound l) n Tryz.prog ops Q rest (a.put o.dst (.agg c)) w):wpListIn (Fence.wide.inRound l) n Tryz.prog ops Q (o::rest) a w:=
 uA fj (fun c' hc=>by rw[ho]at hc;cases hc) fun _ hK=>wp_load_row ty x ho X hx T c fr d hB hu uIv hi (hK _ _ h)
end Go.Proofs.YthmfgidbcghnfaaGreatDoor
namespace Go.Proofs.YthmfgidbcghnfaaGreatDoor
open Go.RowKit
abbrev Rg (α:Type):=Nat->Option α
def aH4 {α:Type} (R:Rg α) (i:Nat) (x:α):Rg α:=fun k=>if k=i then some x else R k
def noG {α:Type}:Rg α:=fun _=>none
def gB {α:Type} (R:Rg α):Nat->Nat
 |0=>0
 |k+1=>gB R k+(if(R k).isSome=true then 1 else 0)
def eV {α:Type} (R:Rg α):Nat->Nat
 |0=>0
 |k+1=>eV R k+(if(R k).isSome=true then 2^k else 0)
theorem zZ {α:Type} (R:Rg α):∀k,gB R k<=k
 |0=>aA _
 |k+1=>by have:=zZ R k;unfold gB;split<;>omega
theorem tD {α:Type} (R:Rg α):∀k,eV R k<2^k
 |0=>Nat.zero_lt_one
 |k+1=>by
  have h:=tD R k;unfold eV;rw[aBG];split<;>omega
theorem mM {α:Type} (R:Rg α):∀k i,(eV R k).testBit i=(decide (i<k)&&(R i).isSome)
 |0,i=>by simp[eV]
 |k+1,i=>by
  have hlt:=tD R k;unfold eV;by_cases hk:(R k).isSome=true
  ·have e:=xP hlt 1
   rw[if_pos hk,Nat.add_comm,show(2:Nat)^k=2^k*1 by omega,e,Nat.testBit_or,nL,aGy,mM R k i];by_cases h:k=i
   ·subst h;simp[hk]
   ·by_cases h2:i<k
    ·simp[h,h2,Nat.lt_succ_of_lt h2]
    ·simp[h,h2,show¬i<k+1 by omega]
  ·rw[if_neg hk,jV,mM R k i]
   by_cases h:i=k
   ·subst h;simp at hk;simp[hk]
   ·by_cases h2:i<k
    ·simp[h2,Nat.lt_succ_of_lt h2]
    ·simp[h2,show¬i<k+1 by omega]
theorem aQc {α:Type} (R:Rg α) (i:Nat) (hi:i<32):aSj (eV R 32) i=(R i).isSome:=by
 rw[tE,mM];simp[hi]
theorem aOQ {α:Type} (R:Rg α):eV R 32<4294967296:=tD R 32
theorem aLO {α:Type} (R:Rg α) (x:α) (i:Nat):bits .or .u32 (eV R 32:Nat) ((2^i:Nat):Int)=(eV (aH4 R i x) 32:Nat):=
 aBp .or _ _ _ (tD _ 32) fun k hk=>by
  simp only[BitVec.getLsbD_or,aFS hk,mM,aGy,aH4,hk,decide_true,lF];by_cases h:i=k
  ·subst h;simp
  ·simp[h,show¬k=i by omega]
theorem yY {α:Type} (R:Rg α):∀k,k<=32->rkN (eV R 32) k=gB R k
 |0,_=>rfl
 |k+1,h=>by
  unfold rkN gB;rw[yY R k hO,aQc R k hO]
def iZ {α:Type} (R:Rg α):List (Nat×α):=(List.range 32).filterMap fun i=>(R i).map fun x=>(i,x)
def qF {α:Type} (R:Rg α) (l:List Nat):List α:=l.filterMap R
def oH {α:Type} (R:Rg α):List α:=qF R (List.range 32)
theorem sM {α:Type} (R:Rg α):∀k,(qF R (List.range k)).length=gB R k
 |0=>rfl
 |k+1=>by
  unfold gB;rw[aDu];unfold qF;rw[lS,aB];have:=sM R k;unfold qF at this;rw[this];cases h:R k<;>simp[h]
theorem xL {α:Type} (R:Rg α) (k:Nat):gB R (k+1)=gB R k+(if(R k).isSome=true then 1 else 0):=rfl
theorem oG {α:Type} (R:Rg α):(oH R).length=gB R 32:=sM R 32
theorem uB {α:Type} (R:Rg α) {i:Nat} (hi:i<32):oH R=qF R (List.range i)++((R i).toList++qF R ((List.range (31-i)).map (i+1+ ·))):=by
 unfold oH qF
 conv=>lhs;rw[aC9 hi]
 rw[lS,lS];cases h:R i<;>simp[h]
theorem aGT {α:Type} (R:Rg α) {i:Nat} (hi:i<32):(oH R).take (gB R i)=qF R (List.range i):=by
 rw[uB R hi,<-sM R i,nA]
theorem aI9 {α:Type} (R:Rg α) {i:Nat} (hi:i<32):(oH R).drop (gB R (i+1))=qF R ((List.range (31-i)).map (i+1+ ·)):=by
 rw[uB R hi,<-bG];have e:gB R (i+1)=(qF R (List.range i)++(R i).toList).length:=by
  rw[aB,sM,xL];cases h:R i<;>simp
 rw[e,oY]
theorem yI {α:Type} {R T:Rg α}:∀{l:List Nat},(∀k,k∈l->R k=T k)->qF R l=qF T l
 |[],_=>rfl
 |a::l,h=>by
  have ih:=yI (R:=R) (T:=T) (l:=l) fun k hk=>h k (bF _ hk)
  unfold qF at ih ⊢;rw[List.filterMap_cons,List.filterMap_cons,h a aZ,ih]
theorem aOR {α:Type} (R:Rg α) (x:α) {i:Nat} (hi:i<32):oH (aH4 R i x)=(oH R).take (gB R i)++([x]++(oH R).drop (gB R (i+1))):=by
 rw[aGT R hi,aI9 R hi,uB (aH4 R i x) hi,aH4];congr 1
 ·exact yI fun k hk=>by
   rw[jZ]at hk;exact if_neg hO
 ·congr 1
  ·simp
  ·exact yI fun k hk=>by
    rw[dH]at hk;obtain⟨j,_,rfl⟩:=hk;exact if_neg hO
theorem aKx {α:Type} (R:Rg α) {i:Nat} (hi:i<32) {x:α} (h:R i=some x):(oH R)[gB R i]? =some x:=by
 rw[uB R hi,<-sM R i,h];simp
theorem aQi {α:Type} (R:Rg α):(iZ R).map (·.2)=oH R:=by
 unfold iZ oH qF;rw[List.map_filterMap];congr 1
 funext i
 cases R i<;>rfl
theorem rD {α:Type} (R:Rg α):(iZ R).length=gB R 32:=by rw[<-oG,<-aQi,aM]
theorem aL9 {α:Type} (R:Rg α) {i:Nat} (hi:i<32) {x:α} (h:R i=some x):(iZ R)[gB R i]? =some (i,x):=by
 have hl:((List.range i).filterMap fun i=>(R i).map fun x=>(i,x)).length=gB R i:=by
  rw[<-sM R i];have e:((List.range i).filterMap fun i=>(R i).map fun x=>(i,x)).map (·.2)=qF R (List.range i):=by
   unfold qF;rw[List.map_filterMap];congr 1
   funext i
   cases R i<;>rfl
  rw[<-e,aM]
 unfold iZ
 conv=>lhs;rw[aC9 hi]
 rw[lS,<-hl];simp[h]
theorem aID {α:Type} {R:Rg α} {p:Nat×α} (h:p∈iZ R):p.1<32/\R p.1=some p.2:=by
 unfold iZ at h;rw[List.mem_filterMap]at h;obtain⟨i,hi,e⟩:=h;rw[jZ]at hi;cases hr:R i with
 |none=>rw[hr]at e;cases e
 |some x=>rw[hr]at e;cases e;exact⟨hi,hr⟩
theorem aAB {α:Type} {R:Rg α} {p:Nat}:∀{q:Nat},p<=q->(∀j,p<=j->j<q->(R j).isSome=false)->gB R q=gB R p
  |0,h,_=>by obtain rfl:p=0:=hO;rfl
  |q+1,h,h2=>by
   by_cases e:p=q+1
   ·subst e;rfl
   ·rw[<-aAB (p:=p) (q:=q) hO fun j a c=>h2 j a hO]
    rw[xL,h2 q hO hO];simp
theorem aAA {α:Type} (R:Rg α) {p q:Nat} (h:p<=q):gB R p<=gB R q:=by
  induction q with
  |zero=>obtain rfl:p=0:=by omega
         exact aA _
  |succ q ih=>
   by_cases e:p=q+1
   ·subst e;exact aA _
   ·have:=ih hO
    rw[xL];omega
theorem aMo {α:Type} (R:Rg α) {p:Nat} (hc:gB R p<gB R 32):∃q x,oT (eV R 32) p≠0/\Lib.ctz 32 (oT (eV R 32) p)=q/\p<=q/\q<32/\R q=some x/\gB R q=gB R p/\gB R (q+1)=gB R p+1/\
  oT (eV R 32) p&&&(oT (eV R 32) p-1)=oT (eV R 32) (q+1):=by
 have hp:p<32:=by
  apply Nat.lt_of_not_le;intro h;have:=aAA R h;omega
 have h0:oT (eV R 32) p≠0:=by
  intro h;have e:gB R 32=gB R p:=aAB hO fun j h1 h2=>by
   have:=aAu (eV R 32) p j;rw[h,mM]at this;simpa[h1,h2]using this
  omega
 have hlt:=aKy p (tD R 32);generalize hL:oT (eV R 32) p=L at h0 hlt;obtain⟨m,hm,_⟩:=Lib.ctzFrom_spec 32 L hO hlt;have hz:Lib.ctz 32 L=Lib.ctzFrom 32 L:=by unfold Lib.ctz;rw[if_neg h0]
 have Po:=(Lib.lowest_bit 32 L h0 hlt).2;rw[<-hz]at hm;generalize hq:Lib.ctz 32 L=q at hm Po;have ht:∀i,L.testBit i=(decide (q<=i)&&(2*m+1).testBit (i-q)):=fun i=>by
  rw[hm,Nat.mul_comm,aBb]
 have hb:∀i,L.testBit i=(decide (p<=i)&&(decide (i<32)&&(R i).isSome)):=fun i=>by
  rw[<-hL,aAu,mM]
 have qx:L.testBit q=true:=by rw[ht];simp
 have Pp:p<=q/\(R q).isSome=true:=by
  rw[hb]at qx;simp only[eQ,eI]at qx;exact⟨qx.1,qx.2.2⟩
 obtain⟨Pp,hs⟩:=Pp;obtain⟨x,hx⟩:=qH.1 hs;have Ab:∀j,p<=j->j<q->(R j).isSome=false:=fun j h1 h2=>by
  have e:=hb j;rw[ht j]at e;simpa[h1,show¬q<=j by omega,show j<32 by omega]using e.symm
 have N7:gB R q=gB R p:=aAB Pp Ab;refine⟨q,x,by first|exact h0|(rw[hL];exact h0),rfl,Pp,Po,hx,N7,?_,?_⟩
 ·rw[xL,N7,hs];rfl
 ·apply Nat.eq_of_testBit_eq
  intro i;rw[aDt,aAu,mM,hb];have e1:L-1=2^q*(2*m)+(2^q-1):=by
   rw[hm,Nat.mul_add,nL];have:0<2^q:=nX q;omega
  have e2:(L-1).testBit i=if i<q then true else(2*m).testBit (i-q):=by
   rw[e1,xP (by have:0<2^q:=nX q;omega),Nat.testBit_or,Nat.mul_comm,aBb,xQ];by_cases h:i<q
   ·simp[h]
   ·simp[h,show q<=i by omega]
  rw[e2];by_cases h:i<q
  ·have:p<=i->(R i).isSome=false:=fun h1=>Ab i h1 h
   rw[if_pos h];by_cases h1:p<=i
   ·simp[this h1]
   ·simp[h1,show¬q+1<=i by omega]
  ·rw[if_neg h]
   by_cases h1:i=q
   ·subst h1;simp;omega
   ·obtain⟨d,rfl⟩:∃d,i=q+(d+1):=⟨i-q-1,by omega⟩
    have e3:(2*m).testBit (d+1)=(2*m+1).testBit (d+1):=by
     rw[Nat.testBit_succ,Nat.testBit_succ];congr 1
     omega
    have e4:=ht (q+(d+1));rw[hb]at e4;simp only[show q+(d+1)-q=d+1 by omega,e3]at e4 ⊢;rw[show decide (q<=q+(d+1))=true by simp,lF]at e4;rw[<-e4];simp only[show p<=q+(d+1) by omega,show q+1<=q+(d+1) by omega,decide_true,lF,Bool.and_self]
end Go.Proofs.YthmfgidbcghnfaaGreatDoor
