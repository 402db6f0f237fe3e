import Derived.Test.YthmfgidbcghnfaaGreatDoorQ0
import Derived.Test.YthmfgidbcghnfaaGreatDoorQ35
set_option maxRecDepth 1000000
set_option maxHeartbeats 8000000
set_option linter.unusedSimpArgs false
namespace Go.Proofs.YthmfgidbcghnfaaGreatDoor
open Go.RowKit
theorem tl3 {α β γ:Type} {Q P:α->β->γ->Prop} {G:Prop} (M5:(∀a b c,Q a b c->P a b c)->G) (rest:∀a b c,Q a b c->P a b c):G:=M5 rest
theorem bD {A B C:World} {row:Option Nat} (h:A.grownBy B row) (k:B.grownBy C row):A.grownBy C row:=
 ⟨k.os.trans h.os,k.tape.trans h.tape,k.output.trans h.output,aI h.size k.size,fun i hi bn=>(k.block i (bK hi h.size) bn).trans (h.block i hi bn)⟩
theorem dS {A B:World} (h:Below A.heap.size A B) (row:Option Nat):A.grownBy B row:=⟨h.os,h.tape,h.output,h.size,fun i hi _=>h.block i hi⟩
theorem nE {A B C:World} {X rb:Nat} (h:A.grownBy B (some rb)) (k:iL X B C) (hX:A.heap.size<=X):A.grownBy C (some rb):=
 ⟨k.by_.os.trans h.os,k.by_.tape.trans h.tape,k.by_.output.trans h.output,aI h.size k.by_.size,fun i hi bn=>(k.by_.block i (bK hi h.size) uCy).trans (h.block i hi bn)⟩
theorem aBT (t:Tok) {w w1:World} (ag:w1=w.alloc (.cells (bN t) 90)):Below w.heap.size w w1/\w1.heap[w.heap.size]? =some (.cells (bN t) 90 (0,0))/\w1.heap.size=w.heap.size+1:=by
 subst ag;exact⟨Below.newly' _ _,aC _ _,by simp⟩
theorem tA (t:Tok) (g:ByteArray) (w:World):Calls Tryz.prog 135 #[.agg (bN t),.string g] w fun e w'=>e=.returned (.bool (decide (t.k=1)&&t.t==g.data.toList))/\Below w.heap.size w w':=by
 obtain⟨w1,ag⟩:∃w1,w1=w.alloc (.cells (bN t) 90):=⟨_,rfl⟩
 obtain⟨af,h1,_⟩:=aBT t ag;obtain⟨tk,ta,te,tn,tt⟩:=t;have d0:w1.cell? ⟨w.heap.size,0,none⟩=some (.int .i64 tk):=aG h1 rfl;have d4:w1.cell? ⟨w.heap.size,4,none⟩=some (.string ⟨tt.toArray⟩):=aG h1 rfl;have HB:=iH af;clear af h1;dsimp only;by_cases c:tk=1
 ·have gd:(tk==1)=true:=eK.2 c
  rw[gT c];clear c;go_enter Tryz.func135,Tryz.ntmps135;go_upto_region 1 with fail
  rw[<-ag];clear ag;go_wp2_with fail
  go_ret;refine⟨nN ?_,HB.out⟩;rw[lF,dJ]
 ·have gd:(tk==1)=false:=aE.2 c
  rw[dB c];clear c;go_enter Tryz.func135,Tryz.ntmps135;go_upto_region 1 with fail
  rw[<-ag];clear ag;go_wp2_with fail
  go_ret;exact⟨rfl,HB.out⟩
theorem aD9 (k:Int) (hk:k=4\/k=5\/k=6) (w:World):Calls Tryz.prog 118 #[.int .i64 k] w fun e w'=>e=.returned (.tuple #[.string ⟨#[sK k]⟩,.string ⟨#[kR k]⟩])/\w=w':=by
 rcases hk with rfl|rfl|rfl
 all_goals
  go_enter Tryz.func118,Tryz.ntmps118;go_wp2_with fail
  go_ret2;exact⟨rfl,rfl⟩
theorem aMZ (b:Bool) (w:World):Calls Tryz.prog 72 #[.bool b] w fun e w'=>e=.returned (.string ⟨(if b then[116,114,117,101]else[102,97,108,115,101]:List UInt8).toArray⟩)/\w=w':=by
 cases b
 all_goals
  go_enter Tryz.func72,Tryz.ntmps72;go_wp2_with fail
  go_ret;exact⟨rfl,rfl⟩
def brk (E:Value):PanicEntry:={v:=.iface 101 (.agg #[E]),recovered:=false}
theorem fR.shape {S:Nat} {W:World} {E:Value} {c n:Int} (h:fR S W E c n) (hc:c≠0):∃b,E=.iface 152 (.pointer (some ⟨b,0,none⟩)):=by
 rcases h with⟨h,_⟩|⟨b,_,h,_⟩
 ·exact absurd h hc
 ·exact⟨b,h⟩
theorem aDb (c:Int) (n:Nat) (w:World) (h0:0<c/\c<=20) (hn:n<=2000000):Calls Tryz.prog 48 #[.int .i64 c,.int .i64 (n:Int)] w fun e w'=>∃E,e=.returned E/\fR w.heap.size w' E c (n:Int)/\Below w.heap.size w w':=by
 exact Ac4
theorem pY (c:Int) (n:Nat) (w:World) (h0:0<c/\c<=20) (hn:n<=2000000):Calls Tryz.prog 100 #[.int .i64 c,.int .i64 (n:Int)] w fun e w'=>∃E,e=.panicked [brk E]/\fR w.heap.size w' E c (n:Int)/\Below w.heap.size w w':=by
 have HF:=iH (aDb c n w h0 hn);have hc:c≠0:=by omega
 clear h0 hn;go_enter Tryz.func100,Tryz.ntmps100;go_wp2_with (go_at_call 48;refine HF.out.mono ?_;rintro r V ⟨E,rfl,he,hb⟩;have HE:=iH he;have HB:=iH hb;obtain⟨b,rfl⟩:=he.shape hc;clear he hb)
 exact⟨rfl,_,rfl,HE.out,HB.out⟩
def iS (l:List UInt8) (f:Nat) (k:Int) (d a n:Nat) (seen:List (List UInt8)) (ks:List ByteArray):Except (Nat×Int) (Rd×List (List UInt8)×List ByteArray):=
 match rdK l k a seen ks with
 | .error q=>.error q
 | .ok (b,seen,ks)=>
  match rdV l f (d+1) b n with
  | .error q=>.error q
  | .ok r=>if k=6/\dW (cP r.t)∈seen then .error (r.a,6)else .ok (r,(if k=6 then seen++[dW (cP r.t)]else seen),ks)
theorem aO6 (l:List UInt8) (f:Nat) (k:Int) (d a n:Nat) (seen:List (List UInt8)) (ks:List ByteArray) (xs:List Tr):
  rdP l (f+1) k d a n seen ks xs=match iS l f k d a n seen ks with
   | .error q=>.error q
   | .ok (r,seen,ks)=>match nxR l r.e with
    | .error q=>.error q
    | .ok u=>if isS u 44 then rdP l f k d u.e r.n seen ks (xs++[r.t])else if isS u (kR k)then .ok ⟨.nd k 0 ⟨#[]⟩ ks (xs++[r.t]),u.e,r.n,0⟩else .error (u.a,2):=by
 rw[rdP];unfold iS;cases rdK l k a seen ks with
 |error q=>rfl
 |ok y=>
  obtain⟨b,bj,kt⟩:=y;simp only;cases rdV l f (d+1) b n with
  |error q=>rfl
  |ok r=>
   simp only;by_cases h:k=6/\dW (cP r.t)∈bj
   ·rw[if_pos h,if_pos h]
   ·rw[if_neg h,if_neg h]
    rfl
theorem aT8 {l:List UInt8} {f:Nat} (hf:2<=f) {k:Int} {d a n:Nat} {seen:List (List UInt8)} {ks:List ByteArray} {xs:List Tr} {q:Nat×Int} (h:nxR l a=.error q):rdP l f k d a n seen ks xs=.error q:=by
 obtain⟨f,rfl⟩:∃g,f=g+2:=⟨f-2,by omega⟩
 rw[rdP];unfold rdK;by_cases hk:k=5
 ·rw[if_pos hk,h]
 ·rw[if_neg hk]
  simp only;rw[rdV,h]
def aAQ (l:List UInt8) (f:Nat) (k:Int) (d a n:Nat):Except (Nat×Int) Rd:=
 match nxR l a with
 | .error q=>.error q
 | .ok u=>if isS u (kR k)then .ok ⟨.nd k 0 ⟨#[]⟩ [] [],u.e,n,0⟩else rdP l f k d a n [] [] []
theorem aC4 {l:List UInt8} {f d a n:Nat} {t:Tok} (hx:nxR l a=.ok t) (h:hdS t=none):rdV l (f+1) d a n=.error (t.a,2):=by
 rw[rdV,hx];simp only[h]
theorem aC7 {l:List UInt8} {f d a n:Nat} {t:Tok} (hx:nxR l a=.ok t) {y:Int×Int×List UInt8×Bool} (h:hdS t=some y) (hd:64<d):rdV l (f+1) d a n=.error (t.a,7):=by
 rw[rdV,hx];obtain⟨k,i,x,p⟩:=y;simp only[h];rw[if_pos hd]
theorem aC5 {l:List UInt8} {f d a n:Nat} {t:Tok} (hx:nxR l a=.ok t) {y:Int×Int×List UInt8×Bool} (h:hdS t=some y) (hd:d<=64) (hn:16384<n+1):rdV l (f+1) d a n=.error (t.a,8):=by
 rw[rdV,hx];obtain⟨k,i,x,p⟩:=y;simp only[h];rw[if_neg hO,if_pos hn]
theorem aC6 {l:List UInt8} {f d a n:Nat} {t:Tok} (hx:nxR l a=.ok t) {k i:Int} {x:List UInt8} (h:hdS t=some (k,i,x,false)) (hd:d<=64) (hn:n+1<=16384):rdV l (f+1) d a n=.ok ⟨.nd k i ⟨x.toArray⟩ [] [],t.e,n+1,t.a⟩:=by
 rw[rdV,hx];simp only[h];rw[if_neg hO,if_neg hO,if_pos trivial]
theorem aC3 {l:List UInt8} {f d a n:Nat} {t:Tok} (hx:nxR l a=.ok t) {k i:Int} {x:List UInt8} (h:hdS t=some (k,i,x,true)) (hd:d<=64) (hn:n+1<=16384):rdV l (f+1) d a n=match aAQ l f k d t.e (n+1)with
  | .error q=>.error q
  | .ok r=>.ok ⟨r.t,r.e,r.n,t.a⟩:=by
 rw[rdV,hx];simp only[h];rw[if_neg hO,if_neg hO,if_neg uAy];unfold aAQ;cases nxR l t.e with
 |error q=>rfl
 |ok u=>
  simp only;by_cases hs:isS u (kR k)=true
  ·rw[if_pos hs,if_pos hs]
  ·rw[if_neg hs,if_neg hs]
   cases rdP l f k d t.e (n+1) [] [] []<;>rfl
theorem aT7 {l:List UInt8} {f d a n:Nat} {t:Tok} (hx:nxR l a=.ok t) {R:Rd} (h:rdV l f d a n=.ok R):R.a=t.a:=by
 cases f with
 |zero=>rw[rdV]at h;cases h
 |succ f=>
  cases hh:hdS t with
  |none=>rw[aC4 hx hh]at h;cases h
  |some y=>
   by_cases hd:64<d
   ·rw[aC7 hx hh hd]at h;cases h
   ·by_cases hn:16384<n+1
    ·rw[aC5 hx hh hO hn]at h;cases h
    ·obtain⟨k,i,x,p⟩:=y
     cases p with
     |false=>
      rw[aC6 hx hh hO hO]at h;simp only[cM]at h;rw[<-h]
     |true=>
      rw[aC3 hx hh hO hO]at h;cases hr:aAQ l f k d t.e (n+1)with
      |error q=>rw[hr]at h;cases h
      |ok r=>
       rw[hr]at h;simp only[cM]at h;rw[<-h]
theorem tH.part {l:List UInt8} {f:Nat} {k:Int} {d a n:Nat} {seen bj:List (List UInt8)} {ks kt:List ByteArray} {xs:List Tr} {r:Rd} (h:tH k d n seen ks xs) (hd:d<=64) (hp:iS l f k d a n seen ks=.ok (r,bj,kt)):
  tH k d r.n bj kt (xs++[r.t])/\rT r.t/\r.n<=16384/\gJ r.t+(d+1)<=65/\(k≠5->kt=ks):=by
 unfold iS at hp;cases h1:rdK l k a seen ks with
 |error q=>rw[h1]at hp;cases hp
 |ok y=>
  obtain⟨b,s2,k2⟩:=y;rw[h1]at hp;simp only at hp;cases h2:rdV l f (d+1) b n with
  |error q=>rw[h2]at hp;cases hp
  |ok R=>
   rw[h2]at hp;simp only at hp;obtain⟨v1,v2,v3,v4⟩:=(aHb l f).1 (d+1) b n R hO h2;by_cases h3:k=6/\dW (cP R.t)∈s2
   ·rw[if_pos h3]at hp;cases hp
   ·rw[if_neg h3]at hp
    simp only[cM,cZ]at hp;obtain⟨rfl,rfl,rfl⟩:=hp;rcases aO7 h1 with⟨rfl,z,rfl,rfl,hz⟩|⟨k5,_,rfl,rfl⟩
    ·rw[if_neg uAv]
     exact⟨h.snoc5 hz ⟨v1,v2⟩ v3,v1,v4,v2,fun e=>absurd rfl e⟩
    ·rcases h.kind with rfl|rfl|rfl
     ·rw[if_neg uAv]
      exact⟨h.snoc4 ⟨v1,v2⟩ v3,v1,v4,v2,fun _=>rfl⟩
     ·exact absurd rfl k5
     ·rw[if_pos rfl]
      exact⟨h.snoc6 (fun hm=>h3 ⟨rfl,hm⟩) ⟨v1,v2⟩ v3,v1,v4,v2,fun _=>rfl⟩
theorem xB {l:List UInt8} {f:Nat} {k:Int} {d a n:Nat} {seen bj:List (List UInt8)} {ks kt:List ByteArray} {xs:List Tr} {r:Rd} (ha:a<=l.length) (hf:2*(l.length-a)+1<=f) (ht:kK l.length (.nd k 0 ⟨#[]⟩ ks xs)) (hp:iS l f k d a n seen ks=.ok (r,bj,kt)):
  kK l.length (.nd k 0 ⟨#[]⟩ kt (xs++[r.t]))/\kK l.length r.t/\a<r.e/\r.e<=l.length:=by
 obtain⟨_,h2,h3⟩:=fO.1 ht;unfold iS at hp;cases h1:rdK l k a seen ks with
 |error q=>rw[h1]at hp;cases hp
 |ok y=>
  obtain⟨b,s2,k2⟩:=y;rw[h1]at hp;simp only at hp;obtain⟨_,e2,e3,e4⟩:=aKh ha h1;have hA:=(aEi l f).1 (d+1) b n e3 hO;cases h5:rdV l f (d+1) b n with
  |error q=>rw[h5]at hp;cases hp
  |ok R=>
   rw[h5]at hp hA;simp only at hp;obtain⟨_,_,_,v4⟩:=(aBt l f).1 (d+1) b n R e3 h5;by_cases h6:k=6/\dW (cP R.t)∈s2
   ·rw[if_pos h6]at hp;cases hp
   ·rw[if_neg h6]at hp
    simp only[cM,cZ]at hp;obtain⟨rfl,_,rfl⟩:=hp;obtain⟨a1,a2,a3⟩:=hA;exact⟨wW (e4 h2) (aCA h3 v4),v4,by omega,a3⟩
section
variable {l : List UInt8} {f d a n : Nat} {seen : List (List UInt8)} {ks : List ByteArray} {u c : Tok} {q : Nat × Int}
theorem aCn (h:nxR l a=.ok u) (hk:u.k≠4):iS l f 5 d a n seen ks=.error (u.a,2):=by
 unfold iS rdK;rw[if_pos rfl,h];simp only;rw[if_pos hk]
theorem aAS (h:nxR l a=.ok u) (hk:u.k=4) (ht:u.t∈seen):iS l f 5 d a n seen ks=.error (u.a,6):=by
 unfold iS rdK;rw[if_pos rfl,h];simp only;rw[if_neg uJu,if_pos ht]
theorem aCm (h:nxR l a=.ok u) (hk:u.k=4) (ht:u.t∉seen) (hc:nxR l u.e=.error q):iS l f 5 d a n seen ks=.error q:=by
 unfold iS rdK;rw[if_pos rfl,h];simp only;rw[if_neg uJu,if_neg ht,hc]
theorem aCl (h:nxR l a=.ok u) (hk:u.k=4) (ht:u.t∉seen) (hc:nxR l u.e=.ok c) (hs:isS c 58=false):iS l f 5 d a n seen ks=.error (c.a,2):=by
 unfold iS rdK;rw[if_pos rfl,h];simp only;rw[if_neg uJu,if_neg ht,hc];simp only;rw[if_neg (by rw[hs];decide)]
theorem aEq (h:nxR l a=.ok u) (hk:u.k=4) (ht:u.t∉seen) (hc:nxR l u.e=.ok c) (hs:isS c 58=true):iS l f 5 d a n seen ks=match rdV l f (d+1) c.e n with
  | .error q=>.error q
  | .ok r=>.ok (r,seen++[u.t],ks++[⟨u.t.toArray⟩]):=by
 unfold iS rdK;rw[if_pos rfl,h];simp only;rw[if_neg uJu,if_neg ht,hc];simp only;rw[if_pos hs];simp only;cases rdV l f (d+1) c.e n with
 |error q=>rfl
 |ok r=>
  simp only;rw[if_neg hO,if_neg uAv]
theorem aKg (hf:1<=f) (h:nxR l a=.error q):rdV l f d a n=.error q:=by
 obtain⟨f,rfl⟩:∃g,f=g+1:=⟨f-1,by omega⟩
 rw[rdV,h]
theorem aM7:iS l f 4 d a n seen ks=match rdV l f (d+1) a n with
  | .error q=>.error q
  | .ok r=>.ok (r,seen,ks):=by
 unfold iS rdK;rw[if_neg uAv];simp only;cases rdV l f (d+1) a n with
 |error q=>rfl
 |ok r=>
  simp only;rw[if_neg hO,if_neg uAv]
theorem aM6:iS l f 6 d a n seen ks=match rdV l f (d+1) a n with
  | .error q=>.error q
  | .ok r=>if dW (cP r.t)∈seen then .error (r.a,6)else .ok (r,seen++[dW (cP r.t)],ks):=by
 unfold iS rdK;rw[if_neg uAv];simp only;cases rdV l f (d+1) a n with
 |error q=>rfl
 |ok r=>
  simp only;by_cases h:dW (cP r.t)∈seen
  ·rw[if_pos ⟨trivial,h⟩,if_pos h]
  ·rw[if_neg (fun e=>h e.2),if_neg h,if_pos trivial]
end
end Go.Proofs.YthmfgidbcghnfaaGreatDoor
namespace Go.Proofs.YthmfgidbcghnfaaGreatDoor
open Go.RowKit
theorem aRy (s:ByteArray) (a:Nat) (w:World) (ha:a<=s.size) (hs:s.size<=2000000):
  Calls Tryz.prog 80 #[.string s,.int .i64 (a:Int),.func (.func 81) #[] #[]] w fun e w'=>(∃k:Nat,a<=k/\k<=s.size/\e=.returned (.int .i64 (k:Int))/\(∀j (h:j<s.size),a<=j->j<k->uI s[j]=true)/\(k=s.size\/∃h:k<s.size,uI s[k]=false))/\w=w':=
 aAr 81 uI (iX Tryz.func81 uAu rfl) aMk s a w ha hs
theorem aKt (s:ByteArray) (a:Nat) (w:World) (ha:a<=s.size) (hs:s.size<=2000000):
  Calls Tryz.prog 80 #[.string s,.int .i64 (a:Int),.func (.func 83) #[] #[]] w fun e w'=>(∃k:Nat,a<=k/\k<=s.size/\e=.returned (.int .i64 (k:Int))/\(∀j (h:j<s.size),a<=j->j<k->iM s[j]=true)/\(k=s.size\/∃h:k<s.size,iM s[k]=false))/\w=w':=
 aAr 83 iM (iX Tryz.func83 uAu rfl) yH s a w ha hs
theorem aRA (s:ByteArray) (a:Nat) (w:World) (ha:a<=s.size) (hs:s.size<=2000000):
  Calls Tryz.prog 80 #[.string s,.int .i64 (a:Int),.func (.func 87) #[] #[]] w fun e w'=>(∃k:Nat,a<=k/\k<=s.size/\e=.returned (.int .i64 (k:Int))/\(∀j (h:j<s.size),a<=j->j<k->nbS s[j]=true)/\(k=s.size\/∃h:k<s.size,nbS s[k]=false))/\w=w':=
 aAr 87 nbS (iX Tryz.func87 uAu rfl) aMj s a w ha hs
theorem aOM (s:ByteArray) (a:Nat) (w:World) (ha:a<s.size) (hd:iM s[a]=true) (hs:s.size<=2000000):
  Calls Tryz.prog 80 #[.string s,.int .i64 (a:Int),.func (.func 83) #[] #[]] w fun e w'=>(∃k:Nat,a+1<=k/\k<=s.size/\e=.returned (.int .i64 (k:Int))/\(∀j (h:j<s.size),a+1<=j->j<k->iM s[j]=true)/\(k=s.size\/∃h:k<s.size,iM s[k]=false))/\w=w':=
 (aKt s a w (eH ha) hs).mono fun _ _ ⟨⟨k,h1,h2,h3,h4,h5⟩,h6⟩=>by
  have hk:a+1<=k:=by
   rcases eB a k with h|h
   ·exact h
   ·obtain rfl:k=a:=by omega
    rcases h5 with e|⟨_,e⟩
    ·omega
    ·rw[hd]at e;cases e
  exact⟨⟨k,hk,h2,h3,fun j h hj=>h4 j h hO,h5⟩,h6⟩
theorem zI (s:ByteArray) (p:Nat) (w:World) (hT:T13 w) (hp:p<=s.size) (hs:s.size<=2000000):Calls Tryz.prog 49 #[.string s,.int .i64 (p:Int)] w fun e w'=>∃E,e=.returned (.tuple #[aFq (cB s.data.toList p).1,E])/\fR w.heap.size w' E (cB s.data.toList p).2.2 ((cB s.data.toList p).2.1:Nat)/\Below w.heap.size w w':=by
 obtain⟨Q,hQ⟩:∃Q,Q=cB s.data.toList p:=⟨_,rfl⟩
 rw[<-hQ];have HQ:=iH hQ;have Gw:=iH hT;have vu:Hid (∀W,Calls Tryz.prog 80 #[.string s,.int .i64 (p:Int),.func (.func 81) #[] #[]] W fun e w'=>(∃k:Nat,p<=k/\k<=s.size/\e=.returned (.int .i64 (k:Int))/\Q=nx s.data.toList k)/\W=w'):=fun W=>
  (aRy s p W hp hO).mono fun _ _ ⟨⟨k,h1,h2,h3,h4,h5⟩,h6⟩=>⟨⟨k,h1,h2,h3,HQ.out.trans (aQa s p k h1 h2 h4 h5)⟩,h6⟩
 obtain⟨w1,ag⟩:∃w1,w1=w.alloc (.cells (bN ⟨0,0,0,0,[]⟩) 90):=⟨_,rfl⟩
 have af:Below w.heap.size w w1:=by rw[ag];exact Below.newly' _ _
 have ai:w1.heap[w.heap.size]? =some (.cells (bN ⟨0,0,0,0,[]⟩) 90 (0,0)):=by rw[ag];exact aC _ _
 have HB1:=iH af;have ew:Hid (w.heap.size<w1.heap.size):=(gZ ai)
 have HX:Hid (∀W,Below w1.heap.size w1 W->W.heap[w.heap.size]? =some (.cells (bN ⟨0,0,0,0,[]⟩) 90 (0,0))):=fun W hb=>kW hb ai
 have HW:Hid (Below w1.heap.size w1 w1):=bB _ _;clear af ai;clear hQ hT HQ;have yh:decide ((p:Int)<0)=false:=dB hO;have lu:decide (s.size<p)=false:=dB hO;go_enter Tryz.func49,Tryz.ntmps49;go_upto_region 1 with fail
 rw[show w.alloc (.cells #[.int .i64 0,.int .i64 0,.int .i64 0,.int .i64 0,.string ⟨#[]⟩] 90)=w1 from ag.symm];clear ag;go_upto_region 4 with(go_at_call 80;refine(vu.out _).mono ?_;rintro r V ⟨⟨k,Rb,gd,rfl,hq⟩,rfl⟩)
 have HQ:=iH hq;clear hq yh lu vu;by_cases hlt:k<s.size
 case neg=>
  obtain rfl:k=s.size:=by omega
  have HE:Hid (Q=(⟨0,s.size,s.size,0,[]⟩,0,0)):=HQ.out.trans (aTg _ _ (by rw[cY];exact aA _));clear HQ;go_wp2_with ((refine aV rfl 90 _ _ rfl w.heap.size (bN ⟨0,s.size,s.size,0,[]⟩) rfl rfl 90 (bN ⟨0,0,0,0,[]⟩) (HX.out _ HW.out) bR rfl uBw ?_;intro w8 h8 k8))
  refine aN (aR rfl _ _ w.heap.size 90 _ (0,0) _ rfl h8 Tryz.underlying90 rfl bR) rfl ?_;exact⟨.nilIface,by rw[HE.out];rfl,by rw[HE.out];exact zR _ _ _,HB1.out.trans ((HW.out.mono HB1.out.size).trans (k8.below (aA _)))⟩
 have l0:(k:Int)<s.size:=by omega
 have Gp:(s.size:Int)<=2000000:=by omega
 have g1:((k:Int)==(s.size:Int))=false:=aE.2 hO;go_upto_region 8 with fail
 clear g1;by_cases c1:(s[k].toNat:Int)=34
 case pos=>
  have zb:=fun W (hb:Below w1.heap.size w1 W)=>aRx s k W ((Gw.out.below (tW HB1.out hb)).1) gd hs
  obtain⟨q,hq⟩:∃q,q=aLB s.data.toList k:=⟨_,rfl⟩
  have HE:Hid (Q=q):=HQ.out.trans ((aRi s k hlt hO).trans hq.symm);rw[<-hq]at zb;clear hq HQ;obtain⟨⟨tk,ta,te,tn,tt⟩,qn,qe⟩:=q;have Zc:Hid (∀W,Below w1.heap.size w1 W->Calls Tryz.prog 82 #[.string s,.int .i64 (k:Int)] W fun e w'=>∃E,e=.returned (.tuple #[.agg (bN ⟨tk,ta,te,tn,tt⟩),E])/\fR W.heap.size w' E qe (qn:Nat)/\Below W.heap.size W w'):=zb;clear zb;go_wp2_with (first
   |(go_at_call 82;have H0:=HW.out.size;refine(Zc.out _ HW.out).mono ?_;rintro r V ⟨E,rfl,he,hb⟩;replace HW:=iH (tW HW.out hb);have sz:=iH he;have HS:=iH H0;clear hb he H0)
   |(refine aV rfl 90 _ _ rfl w.heap.size (bN ⟨tk,ta,te,tn,tt⟩) rfl rfl 90 (bN ⟨0,0,0,0,[]⟩) (HX.out _ HW.out) bR rfl uBw ?_;intro w8 h8 k8))
  exact Aa9
 have g2:((s[k].toNat:Int)==34)=false:=aE.2 c1;by_cases c2:(s[k].toNat:Int)=45
 case pos=>
  have Kg:=iH (fun W=>aKt s (k+1) W hO hO);have Ss:=iH (fun m W (h1:k+1<=m) (h2:m<=s.size)=>aEw s k m W hO h2 hs);have fk:=iH (fun m (h1:k+1<=m) (h2:m<=s.size) h3 h4=>HQ.out.trans ((aOq s k hlt hO (.inl hO)).trans (aOr s k m hlt h1 h2 h3 h4)));clear HQ;have g3:IntKind.i64.wrap ((k:Int)+1)=((k+1:Nat):Int):=by rw[jM]<;>omega
  go_wp2_with (first
   |(go_at_call 80;refine(Kg.out _).mono ?_;rintro r V ⟨⟨m,me,Cg,rfl,B9,Kh⟩,rfl⟩;have HE:=iH (fk.out m me Cg B9 Kh);have HN:=iH (fun W=>Ss.out m W me Cg);clear B9 Kh fk Ss;generalize aFQ s k m=q at HE HN;obtain⟨⟨tk,ta,te,tn,tt⟩,qn,qe⟩:=q)
   |(go_at_call 84;have H0:=HW.out.size;refine(HN.out _).mono ?_;rintro r V ⟨E,rfl,he,hb⟩;replace HW:=iH (tW HW.out hb);have sz:=iH he;have HS:=iH H0;clear hb he H0)
   |(refine aV rfl 90 _ _ rfl w.heap.size (bN ⟨tk,ta,te,tn,tt⟩) rfl rfl 90 (bN ⟨0,0,0,0,[]⟩) (HX.out _ HW.out) bR rfl uBw ?_;intro w8 h8 k8))
  exact Aa9
 have g3:((s[k].toNat:Int)==45)=false:=aE.2 c2;obtain⟨dg,Ji⟩:∃d,d=iM s[k]:=⟨_,rfl⟩
 have O1:=fun W=>yH s[k] W
 rw[<-Ji]at O1;replace O1:=iH O1;cases dg with
 |true=>
  have Kg:=iH (fun W=>aOM s k W hlt Ji.symm hO);have Ss:=iH (fun m W (h1:k+1<=m) (h2:m<=s.size)=>aEw s k m W hO h2 hs);have fk:=iH (fun m (h1:k+1<=m) (h2:m<=s.size) h3 h4=>HQ.out.trans ((aOq s k hlt hO (.inr Ji.symm)).trans (aOr s k m hlt h1 h2 h3 h4)));clear HQ Ji;go_wp2_with (first
   |(go_at_call 83;refine(O1.out _).mono ?_;rintro r V ⟨rfl,rfl⟩)
   |(go_at_call 80;refine(Kg.out _).mono ?_;rintro r V ⟨⟨m,me,Cg,rfl,B9,Kh⟩,rfl⟩;have HE:=iH (fk.out m me Cg B9 Kh);have HN:=iH (fun W=>Ss.out m W me Cg);clear B9 Kh fk Ss;generalize aFQ s k m=q at HE HN;obtain⟨⟨tk,ta,te,tn,tt⟩,qn,qe⟩:=q)
   |(go_at_call 84;have H0:=HW.out.size;refine(HN.out _).mono ?_;rintro r V ⟨E,rfl,he,hb⟩;replace HW:=iH (tW HW.out hb);have sz:=iH he;have HS:=iH H0;clear hb he H0)
   |(refine aV rfl 90 _ _ rfl w.heap.size (bN ⟨tk,ta,te,tn,tt⟩) rfl rfl 90 (bN ⟨0,0,0,0,[]⟩) (HX.out _ HW.out) bR rfl uBw ?_;intro w8 h8 k8))
  refine aN (aR rfl _ _ w.heap.size 90 _ (0,0) _ rfl h8 Tryz.underlying90 rfl bR) rfl ?_;exact⟨E,by rw[HE.out];rfl,by rw[HE.out];exact(sz.out.but k8 (bK ew.out HS.out)).low (aI (eH ew.out) HS.out),HB1.out.trans ((HW.out.mono HB1.out.size).trans (k8.below (aA _)))⟩
 |false=>
  have Qa:Hid (¬(s[k].toNat=45\/iM s[k]=true)):=fun h=>h.elim hO (fun h=>by rw[<-Ji]at h;cases h)
  clear Ji;obtain⟨lt,hl⟩:∃b,b=uW s[k]:=⟨_,rfl⟩
  have Su:=fun W=>xX s[k] W
  rw[<-hl]at Su;replace Su:=iH Su;cases lt with
  |true=>
   have KN:=iH (fun W=>aRA s k W gd hO);have DT:=iH (fun m W (h1:k<=m) (h2:m<=s.size)=>aRv s k m W h1 h2 hs);have fk:=iH (fun m (h1:k<=m) (h2:m<=s.size) h3 h4=>HQ.out.trans (aRh s k m hlt hl.symm h1 h2 h3 h4).2);clear HQ hl Qa;go_wp2_with (first
    |(go_at_call 83;refine(O1.out _).mono ?_;rintro r V ⟨rfl,rfl⟩)
    |(go_at_call 85;refine(Su.out _).mono ?_;rintro r V ⟨rfl,rfl⟩)
    |(go_at_call 80;refine(KN.out _).mono ?_;rintro r V ⟨⟨m,me,Cg,rfl,B9,Kh⟩,rfl⟩;have HE:=iH (fk.out m me Cg B9 Kh);have HN:=iH (fun W=>DT.out m W me Cg);clear B9 Kh fk DT;generalize(s.extract k m).data.toList=tt at HE HN)
    |(go_at_call 86;refine(HN.out _).mono ?_;rintro r V ⟨rfl,hb⟩;replace HW:=iH (tW HW.out hb);clear hb)
    |(refine aV rfl 90 _ _ rfl w.heap.size (bN ⟨2,k,m,0,tt⟩) rfl rfl 90 (bN ⟨0,0,0,0,[]⟩) (HX.out _ HW.out) bR rfl uBw ?_;intro w8 h8 k8))
   refine aN (aR rfl _ _ w.heap.size 90 _ (0,0) _ rfl h8 Tryz.underlying90 rfl bR) rfl ?_;exact⟨.nilIface,by rw[HE.out];rfl,by rw[HE.out];exact zR _ _ _,HB1.out.trans ((HW.out.mono HB1.out.size).trans (k8.below (aA _)))⟩
  |false=>
   have hsg:=fun W (hb:Below w1.heap.size w1 W)=>aRz s k W ((Gw.out.below (tW HB1.out hb)).sg) gd hs
   obtain⟨q,hq⟩:∃q,q=aLM s.data.toList k:=⟨_,rfl⟩
   have HE:Hid (Q=q):=HQ.out.trans ((aRj s k hlt hO Qa.out hl.symm).trans hq.symm);rw[<-hq]at hsg;clear hq HQ hl;obtain⟨⟨tk,ta,te,tn,tt⟩,qn,qe⟩:=q;have Ki:Hid (∀W,Below w1.heap.size w1 W->Calls Tryz.prog 88 #[.string s,.int .i64 (k:Int)] W fun e w'=>∃E,e=.returned (.tuple #[.agg (bN ⟨tk,ta,te,tn,tt⟩),E])/\fR W.heap.size w' E qe (qn:Nat)/\Below W.heap.size W w'):=hsg;clear hsg;go_wp2_with (first
    |(go_at_call 83;refine(O1.out _).mono ?_;rintro r V ⟨rfl,rfl⟩)
    |(go_at_call 85;refine(Su.out _).mono ?_;rintro r V ⟨rfl,rfl⟩)
    |(go_at_call 88;have H0:=HW.out.size;refine(Ki.out _ HW.out).mono ?_;rintro r V ⟨E,rfl,he,hb⟩;replace HW:=iH (tW HW.out hb);have sz:=iH he;have HS:=iH H0;clear hb he H0)
    |(refine aV rfl 90 _ _ rfl w.heap.size (bN ⟨tk,ta,te,tn,tt⟩) rfl rfl 90 (bN ⟨0,0,0,0,[]⟩) (HX.out _ HW.out) bR rfl uBw ?_;intro w8 h8 k8))
   refine aN (aR rfl _ _ w.heap.size 90 _ (0,0) _ rfl h8 Tryz.underlying90 rfl bR) rfl ?_;exact⟨E,by rw[HE.out];rfl,by rw[HE.out];exact(sz.out.but k8 (bK ew.out HS.out)).low (aI (eH ew.out) HS.out),HB1.out.trans ((HW.out.mono HB1.out.size).trans (k8.below (aA _)))⟩
end Go.Proofs.YthmfgidbcghnfaaGreatDoor
