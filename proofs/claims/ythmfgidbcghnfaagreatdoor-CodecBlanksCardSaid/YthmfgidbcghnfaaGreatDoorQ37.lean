import Derived.Test.YthmfgidbcghnfaaGreatDoorQ0
import Derived.Test.YthmfgidbcghnfaaGreatDoorQ36
set_option maxRecDepth 1000000
set_option maxHeartbeats 8000000
set_option linter.unusedSimpArgs false
namespace Go.Proofs.YthmfgidbcghnfaaGreatDoor
open Go.RowKit
theorem aSi (B b:Nat) (l:List UInt8) (c:UInt8) (w:World) (h:Bld B b l w) (an:l.length+1<=140737488355328) (Gd:B<=w.heap.size):
  Calls Tryz.prog 58 #[.pointer (some ⟨b,0,none⟩),.int .u8 (c.toNat:Int)] w fun e w'=>e=.returned .nilIface/\Bld B b (l++[c]) w'/\mX B b w w':=by
 obtain⟨i0,hi,Hl,jg,P6⟩:=dO aIz;go_enter Tryz.func58,Tryz.ntmps58;go_wp2_with fail
 refine(aB3 B b _ _ h).mono ?_;rintro e w1 ⟨rfl,h1,af,gd⟩;obtain⟨hB,v,jf,di,bn⟩:=h1;have c0:w1.cell? ⟨b,0,none⟩=some (.pointer (some ⟨b,0,none⟩)):=by rw[jK jf];rfl
 have c1:w1.cell? ⟨b,1,none⟩=some v:=by rw[jK jf];rfl
 have Bo:=eU (show(Lib.byteCells l).length=l.length by simp[Lib.byteCells]);go_wp2_with (at_builtin;refine wpList_append_ownF _ rfl _ _ 72 rfl B 5 i0 (.int .u8 0) 1 1 Tryz.underlying72 hi Hl jg P6 rfl uAv _ _ _ rfl (di.alloc _) ⟨w1.heap.size,0,none⟩ 1 1 [.int .u8 (c.toNat:Int)] rfl rfl ?c1 ?c2 ?c3 ?c4 ?c5 ?_)
 case c1=>
  intro j u hj
  match j,hj with
  |0,hj=>simp at hj;subst hj;simp[Addr.add]
 case c2=>intro u hu;simp at hu;subst hu;rfl
 case c3=>rw[Bo.out];unfold maxLen;omega
 case c4=>rw[Bo.out];omega
 case c5=>have:=af.size;simp;omega
 intro v' w2 x9 se _;have hlt:b<w1.heap.size:=by
  exact Aj4
 have ah:w2.heap[b]? =some (.cells #[.pointer (some ⟨b,0,none⟩),v] 82 (0,0)):=by
  rw[se.block b uCy (fun e=>bn e.symm),Lib.alloc_old w1 _ b hlt];exact jf
 have d0:w2.cell? ⟨b,0,none⟩=some (.pointer (some ⟨b,0,none⟩)):=by rw[jK ah];rfl
 have d1:w2.cell? ⟨b,1,none⟩=some v:=by rw[jK ah];rfl
 have f1:w2.frozen? ⟨b,1,none⟩=false:=Lib.frozen_of_heap ah 1;obtain⟨ao,n',cap,rfl⟩:∃ao n' cap,v'=.slice ao n' cap:=by
  exact Aj7
 go_wp2
 go_ret;have e:Lib.byteCells (l++[c])=Lib.byteCells l++[.int .u8 (c.toNat:Int)]:=by simp[Lib.byteCells]
 refine⟨rfl,.inr ?_,?_,((gd.alloc _).grown se (Lib.ownsRowF_kind (di.alloc _))).setCell ⟨b,1,none⟩ rfl _⟩
 ·rw[e];exact Lib.BuilderAtF.put (T:=82) (e:=5) hB ah (bs':=Lib.byteCells l++[.int .u8 (c.toNat:Int)]) (by rw[aB];exact x9) uAv
 ·exact((af.alloc (aI Gd af.size) _).grown se (by have:=af.size;simp;omega) (fun k hk=>(di.lt k hk).1)).setCell (p:=⟨b,1,none⟩) hB _
theorem aKf (l:List UInt8):∀f g,(∀d a n,a<=l.length->2*(l.length-a)+1<=f->2*(l.length-a)+1<=g->rdV l f d a n=rdV l g d a n)/\
  (∀k d a n seen ks xs,a<=l.length->2*(l.length-a)+2<=f->2*(l.length-a)+2<=g->rdP l f k d a n seen ks xs=rdP l g k d a n seen ks xs):=by
 intro f;induction f with
 |zero=>exact fun g=>⟨(fun d a n _ h=>by omega),(fun k d a n seen ks xs _ h=>by omega)⟩
 |succ f ih=>
  intro g;cases g with
  |zero=>exact⟨(fun d a n _ _ h=>by omega),(fun k d a n seen ks xs _ _ h=>by omega)⟩
  |succ g=>
   refine⟨fun d a n ha hf hg=> ?_,fun k d a n seen ks xs ha hf hg=> ?_⟩
   ·rw[rdV,rdV]
    cases h1:nxR l a with
    |error q=>rfl
    |ok t=>
     obtain⟨t1,t2,t3⟩:=jP ha h1;simp only;cases h2:hdS t with
     |none=>rfl
     |some y=>
      obtain⟨k,i,x,p⟩:=y;simp only;rw[(ih g).2 k d t.e (n+1) [] [] [] t3 hO hO]
   ·rw[rdP,rdP]
    have hK:=aO8 (k:=k) ha seen ks;cases h1:rdK l k a seen ks with
    |error q=>rfl
    |ok y=>
     obtain⟨b,bj,kt⟩:=y;rw[h1]at hK;obtain⟨b1,b2⟩:=hK;simp only at b1 b2 ⊢;rw[<-(ih g).1 (d+1) b n b2 hO hO];have hV:=(aEi l f).1 (d+1) b n b2 hO;cases h2:rdV l f (d+1) b n with
     |error q=>rfl
     |ok r=>
      rw[h2]at hV;obtain⟨r1,r2,r3⟩:=hV;simp only;cases h4:nxR l r.e with
      |error q=>rfl
      |ok u=>
       obtain⟨u1,u2,u3⟩:=jP r3 h4;simp only;rw[(ih g).2 k d u.e r.n _ kt (xs++[r.t]) u3 hO hO]
def mR (l:List UInt8):Nat->Nat->List Tok×Nat×Int
 |0,_=>([],0,0)
 |f+1,p=>
  let q:=cB l p
  if q.2.2≠0 then([],q.2)
  else if q.1.k=0 then([],0,0)
  else(if(mR l f q.1.e).2.2=0 then q.1::(mR l f q.1.e).1 else[],(mR l f q.1.e).2)
def uJ (l:List UInt8):List Tok×Nat×Int:=mR l (l.length+1) 0
def oU:List TkR->List UInt8
 |[]=>[]
 |[x]=>jN x
 |x::y::l=>jN x++32::oU (y::l)
theorem aEz (l:List UInt8):∀(f g p:Nat),p<=l.length->l.length<f+p->l.length<g+p->mR l f p=mR l g p
 |0,_,p,hp,h1,_=>by omega
 |_+1,0,p,hp,_,h2=>by omega
 |f+1,g+1,p,hp,h1,h2=>by
  unfold mR;simp only;by_cases he:(cB l p).2.2=0
  ·have hk:=sA l p hp he
   by_cases h0:(cB l p).1.k=0
   ·simp only[he,h0,ne_eq,not_true,aLk,xO]
   ·have:=hk.2.2.2.2.2 h0
    rw[aEz l f g (cB l p).1.e hk.2.2.1 hO hO]
  ·simp only[ne_eq,he,aLj,xO]
theorem aAs (l:List UInt8) (p:Nat) (hp:p<=l.length):mR l (l.length+1) p=
  if(cB l p).2.2≠0 then([],(cB l p).2)else if(cB l p).1.k=0 then([],0,0)
  else(if(mR l (l.length+1) (cB l p).1.e).2.2=0 then(cB l p).1::(mR l (l.length+1) (cB l p).1.e).1 else[],(mR l (l.length+1) (cB l p).1.e).2):=by
 rw[mR];by_cases he:(cB l p).2.2=0
 ·have hk:=sA l p hp he
  by_cases h0:(cB l p).1.k=0
  ·simp only[he,h0,ne_eq,not_true,aLk,xO]
  ·have:=hk.2.2.2.2.2 h0
   rw[aEz l l.length (l.length+1) (cB l p).1.e hk.2.2.1 hO hO]
 ·simp only[ne_eq,he,aLj,xO]
def sC (l:List UInt8):List TkR->Nat->Prop
 |[],p=>p<=l.length/\(cB l p).2.2=0/\(cB l p).1.k=0
 |x::r,p=>p<=l.length/\(cB l p).2.2=0/\(cB l p).1.k≠0/\(cB l p).1.r=x/\sC l r (cB l p).1.e
theorem aHG (l:List UInt8):∀(f p:Nat),p<=l.length->l.length<f+p->(mR l f p).2.2=0->sC l ((mR l f p).1.map Tok.r) p
 |0,p,hp,h,_=>by omega
 |f+1,p,hp,h,he=>by
  unfold mR at he ⊢;simp only at he ⊢;by_cases h1:(cB l p).2.2=0
  ·have hk:=sA l p hp h1
   simp only[h1,ne_eq,not_true,aLk]at he ⊢;by_cases h2:(cB l p).1.k=0
   ·simp only[h2,xO]
    exact⟨hp,h1,h2⟩
   ·have h3:=hk.2.2.2.2.2 h2
    simp only[h2,aLk]at he ⊢;rw[if_pos he];exact⟨hp,h1,h2,rfl,aHG l f _ hk.2.2.1 hO he⟩
  ·simp only[ne_eq,h1,aLj,xO]at he
theorem aIC {l:List UInt8} (h:(uJ l).2.2=0):sC l ((uJ l).1.map Tok.r) 0:=aHG l _ 0 (aS _) hO h
theorem aCq {l l':List UInt8} {T:List TkR} {p p':Nat} (h:sC l T p) (h':sC l' T p'):
  (nxR l p=.error (l.length,10)/\nxR l' p'=.error (l'.length,10))\/∃k n x a e a' e' r,nxR l p=.ok ⟨k,a,e,n,x⟩/\nxR l' p'=.ok ⟨k,a',e',n,x⟩/\sC l r e/\sC l' r e':=by
 cases T with
 |nil=>
  obtain⟨_,h1,h2⟩:=h;obtain⟨_,nl,Hd⟩:=h';refine .inl ⟨?_,?_⟩
  ·unfold nxR;rw[if_neg (by rw[h1];simp),if_pos h2]
  ·unfold nxR;rw[if_neg (by rw[nl];simp),if_pos Hd]
 |cons x r=>
  obtain⟨_,h1,h2,h3,h4⟩:=h;obtain⟨_,nl,Hd,tm,gn⟩:=h';refine .inr ⟨(cB l p).1.k,(cB l p).1.n,(cB l p).1.t,(cB l p).1.a,(cB l p).1.e,(cB l' p').1.a,(cB l' p').1.e,r,?_,?_,h4,gn⟩
  ·unfold nxR;rw[if_neg (by rw[h1];simp),if_neg h2]
  ·unfold nxR
   rw[if_neg (by rw[nl];simp),if_neg Hd];have e:=tm.trans h3.symm;generalize(cB l' p').1=t' at*
   generalize(cB l p).1=t at*
   obtain⟨k,a,e,n,x⟩:=t;obtain⟨k',a',e',n',x'⟩:=t';simp only[Tok.r,TkR.mk.injEq]at e;obtain⟨rfl,rfl,rfl⟩:=e;rfl
def SimE (l l':List UInt8):Except (Nat×Int) Rd->Except (Nat×Int) Rd->Prop
 | .ok R,.ok R'=>R.t=R'.t/\R.n=R'.n/\∃T,sC l T R.e/\sC l' T R'.e
 | .error q,.error q'=>q.2=q'.2
 |_,_=>False
theorem aR6 {l l':List UInt8} {T:List TkR} {p p':Nat} (h:sC l T p) (h':sC l' T p') (k:Int) (seen:List (List UInt8)) (ks:List ByteArray):
  (∃c q q',rdK l k p seen ks=.error (q,c)/\rdK l' k p' seen ks=.error (q',c))\/∃b b' bj kt T',rdK l k p seen ks=.ok (b,bj,kt)/\rdK l' k p' seen ks=.ok (b',bj,kt)/\sC l T' b/\sC l' T' b':=by
 unfold rdK;by_cases hk:k=5
 ·rw[if_pos hk,if_pos hk]
  rcases aCq h h' with⟨e1,e2⟩|⟨tk,n,x,a,e,a',e',r,e1,e2,h1,nl⟩
  ·rw[e1,e2];exact .inl ⟨_,_,_,rfl,rfl⟩
  ·rw[e1,e2]
   simp only;by_cases h2:tk≠4
   ·rw[if_pos h2,if_pos h2];exact .inl ⟨_,_,_,rfl,rfl⟩
   ·rw[if_neg h2,if_neg h2]
    by_cases h3:x∈seen
    ·rw[if_pos h3,if_pos h3];exact .inl ⟨_,_,_,rfl,rfl⟩
    ·rw[if_neg h3,if_neg h3]
     rcases aCq h1 nl with⟨f1,f2⟩|⟨Dx,n2,x2,a2,Ir,Sv,F0,r2,f1,f2,h4,gn⟩
     ·rw[f1,f2];exact .inl ⟨_,_,_,rfl,rfl⟩
     ·rw[f1,f2]
      have hs:∀c,isS (⟨Dx,Sv,F0,n2,x2⟩:Tok) c=isS ⟨Dx,a2,Ir,n2,x2⟩ c:=fun _=>rfl
      simp only[hs];by_cases h5:isS ⟨Dx,a2,Ir,n2,x2⟩ 58=true
      ·rw[if_pos h5,if_pos h5]
       exact .inr ⟨_,_,_,_,_,rfl,rfl,h4,gn⟩
      ·rw[if_neg h5,if_neg h5];exact .inl ⟨_,_,_,rfl,rfl⟩
 ·rw[if_neg hk,if_neg hk]
  exact .inr ⟨_,_,_,_,_,rfl,rfl,h,h'⟩
theorem aT6 (l l':List UInt8):∀f,(∀d n T p p',sC l T p->sC l' T p'->SimE l l' (rdV l f d p n) (rdV l' f d p' n))/\
  (∀k d n seen ks xs T p p',sC l T p->sC l' T p'->SimE l l' (rdP l f k d p n seen ks xs) (rdP l' f k d p' n seen ks xs)):=by
 intro f;induction f with
 |zero=>exact⟨(fun d n T p p' _ _=>by rw[rdV,rdV];rfl),(fun k d n seen ks xs T p p' _ _=>by rw[rdP,rdP];rfl)⟩
 |succ f ih=>
  refine⟨fun d n T p p' h h'=> ?_,fun k d n seen ks xs T p p' h h'=> ?_⟩
  ·rw[rdV,rdV]
   rcases aCq h h' with⟨e1,e2⟩|⟨tk,m,x,a,e,a',e',r,e1,e2,h1,nl⟩
   ·rw[e1,e2];rfl
   ·rw[e1,e2]
    have hh:hdS ⟨tk,a',e',m,x⟩=hdS ⟨tk,a,e,m,x⟩:=rfl;simp only;rw[hh];cases h2:hdS ⟨tk,a,e,m,x⟩with
    |none=>rfl
    |some y=>
     obtain⟨k,i,z,q⟩:=y;simp only;by_cases hd:64<d
     ·rw[if_pos hd,if_pos hd];rfl
     ·rw[if_neg hd,if_neg hd]
      by_cases hn:16384<n+1
      ·rw[if_pos hn,if_pos hn];rfl
      ·rw[if_neg hn,if_neg hn]
       by_cases hq:q=false
       ·rw[if_pos hq,if_pos hq];exact⟨rfl,rfl,r,h1,nl⟩
       ·rw[if_neg hq,if_neg hq]
        rcases aCq h1 nl with⟨f1,f2⟩|⟨Dx,n2,x2,a2,Ir,Sv,F0,r2,f1,f2,h4,gn⟩
        ·rw[f1,f2];rfl
        ·rw[f1,f2]
         have hs:∀c,isS (⟨Dx,Sv,F0,n2,x2⟩:Tok) c=isS ⟨Dx,a2,Ir,n2,x2⟩ c:=fun _=>rfl
         simp only[hs];by_cases h5:isS ⟨Dx,a2,Ir,n2,x2⟩ (kR k)=true
         ·rw[if_pos h5,if_pos h5];exact⟨rfl,rfl,r2,h4,gn⟩
         ·rw[if_neg h5,if_neg h5]
          have hP:=ih.2 k d (n+1) [] [] [] r e e' h1 nl;cases g1:rdP l f k d e (n+1) [] [] []with
          |error q1=>
           cases g2:rdP l' f k d e' (n+1) [] [] []with
           |error q2=>rw[g1,g2]at hP;exact hP
           |ok R2=>rw[g1,g2]at hP;exact hP.elim
          |ok R1=>
           cases g2:rdP l' f k d e' (n+1) [] [] []with
           |error q2=>rw[g1,g2]at hP;exact hP.elim
           |ok R2=>rw[g1,g2]at hP;exact hP
  ·rw[rdP,rdP]
   rcases aR6 h h' k seen ks with⟨c,q,q',e1,e2⟩|⟨b,b',bj,kt,T',e1,e2,h1,nl⟩
   ·rw[e1,e2];rfl
   ·rw[e1,e2]
    simp only;have hV:=ih.1 (d+1) n T' b b' h1 nl;cases g1:rdV l f (d+1) b n with
    |error q1=>
     cases g2:rdV l' f (d+1) b' n with
     |error q2=>rw[g1,g2]at hV;exact hV
     |ok R2=>rw[g1,g2]at hV;exact hV.elim
    |ok R1=>
     cases g2:rdV l' f (d+1) b' n with
     |error q2=>rw[g1,g2]at hV;exact hV.elim
     |ok R2=>
      rw[g1,g2]at hV;obtain⟨et,en,T2,hT,Vl⟩:=hV;simp only;rw[<-et,<-en];by_cases h3:k=6/\dW (cP R1.t)∈bj
      ·rw[if_pos h3,if_pos h3];rfl
      ·rw[if_neg h3,if_neg h3]
       rcases aCq hT Vl with⟨f1,f2⟩|⟨Dx,n2,x2,a2,Ir,Sv,F0,r2,f1,f2,h4,gn⟩
       ·rw[f1,f2];rfl
       ·rw[f1,f2]
        have hs:∀c,isS (⟨Dx,Sv,F0,n2,x2⟩:Tok) c=isS ⟨Dx,a2,Ir,n2,x2⟩ c:=fun _=>rfl
        simp only[hs];by_cases h5:isS ⟨Dx,a2,Ir,n2,x2⟩ 44=true
        ·rw[if_pos h5,if_pos h5];exact ih.2 _ _ _ _ _ _ r2 _ _ h4 gn
        ·rw[if_neg h5,if_neg h5]
         by_cases h6:isS ⟨Dx,a2,Ir,n2,x2⟩ (kR k)=true
         ·rw[if_pos h6,if_pos h6];exact⟨rfl,rfl,r2,h4,gn⟩
         ·rw[if_neg h6,if_neg h6];rfl
theorem aOk {l l':List UInt8} {T:List TkR} (h:sC l T 0) (h':sC l' T 0) (hl:l.length<=1048576) (qw:l'.length<=1048576):
  (∃t,jO l=.ok t/\jO l'=.ok t)\/∃q q' c,jO l=.error (q,c)/\jO l'=.error (q',c)/\c≠0:=by
 obtain⟨F,h1,h2⟩:∃F,2*l.length+2<=F/\2*l'.length+2<=F:=⟨2*l.length+2*l'.length+2,by omega,by omega⟩
 have hV:=(aT6 l l' F).1 1 0 T 0 0 h h';rw[<-(aKf l (2*l.length+2) F).1 1 0 0 (aS _) hO hO,<-(aKf l' (2*l'.length+2) F).1 1 0 0 (aS _) hO hO]at hV;have hb:=wX l 0 (aS _);unfold jO;rw[if_neg hO,if_neg hO];unfold mG at hb ⊢;cases g1:rdV l (2*l.length+2) 1 0 0 with
 |error q1=>
  cases g2:rdV l' (2*l'.length+2) 1 0 0 with
  |error q2=>
   rw[g1,g2]at hV;rw[g1]at hb;obtain⟨p1,c1⟩:=q1;obtain⟨p2,c2⟩:=q2;have Zd:c1=c2:=hV;subst Zd;exact .inr ⟨p1,p2,c1,rfl,rfl,hb.2⟩
  |ok R2=>rw[g1,g2]at hV;exact hV.elim
 |ok R1=>
  cases g2:rdV l' (2*l'.length+2) 1 0 0 with
  |error q2=>rw[g1,g2]at hV;exact hV.elim
  |ok R2=>
   rw[g1,g2]at hV;obtain⟨et,_,T2,hT,Vl⟩:=hV;simp only;rw[<-et];cases T2 with
   |nil=>
    obtain⟨_,a1,a2⟩:=hT;obtain⟨_,b1,b2⟩:=Vl;rw[if_neg (by rw[a1];simp),if_neg (by rw[a2];simp),if_neg (by rw[b1];simp),if_neg (by rw[b2];simp)];exact .inl ⟨_,rfl,rfl⟩
   |cons x r=>
    obtain⟨_,a1,a2,_⟩:=hT;obtain⟨_,b1,b2,_⟩:=Vl;rw[if_neg (by rw[a1];simp),if_pos a2,if_neg (by rw[b1];simp),if_pos b2];exact .inr ⟨_,_,_,rfl,rfl,by decide⟩
theorem aCU (w:World):Calls Tryz.prog 35 #[.nilIface] w fun e w'=>e=.returned (.int .i64 0)/\w'=w:=by
 go_enter Tryz.func35,Tryz.ntmps35;go_wp2
 go_ret;exact⟨rfl,rfl⟩
theorem Tx.le {w wl:World} {txt:List UInt8} (h:Tx w wl txt):w.heap.size<=wl.heap.size:=h.below.size
theorem aRV (w:World) (n:Int):rH w .nilIface 0 n:=.inl ⟨rfl,rfl⟩
theorem aCF (l:List UInt8):∀(f p:Nat),∀t∈(mR l f p).1,wO t.r
 |0,p,t,ht=>by cases ht
 |f+1,p,t,ht=>by
  unfold mR at ht;simp only at ht;split at ht
  ·cases ht
  ·rename_i h1
   split at ht
   ·cases ht
   ·rename_i h2
    simp only at ht;split at ht
    ·rcases bL.1 ht with rfl|ht
     ·exact aEu l p (by simpa using h1) h2
     ·exact aCF l f _ t ht
    ·cases ht
def aK0 (r:List UInt8):Prop:=r=[]\/∃q,r=32::q
theorem aE7 (p:UInt8->Bool) (l r:List UInt8) (hl:l.all p=true) (AR:p 32=false) (hr:aK0 r):(l++r).takeWhile p=l:=by
 induction l with
 |nil=>
  rcases hr with rfl|⟨q,rfl⟩
  ·rfl
  ·rw[aT,dZ,if_neg (by rw[AR];decide)]
 |cons c t ih=>
  rw[jW,eQ]at hl;rw[aP,dZ,if_pos hl.1,ih hl.2]
theorem aH3:∀x∈gE,∀q:List UInt8,(∃c t,x=c::t/\c.toNat≠34/\c.toNat≠45/\iM c=false/\uW c=false/\uI c=false)/\gE.find? (fun y=>y.isPrefixOf (x++32::q))=some x/\gE.find? (fun y=>y.isPrefixOf x)=some x:=by
 intro x hx q;simp only[gE,bL,gL,uS]at hx;rcases hx with rfl|rfl|rfl|rfl|rfl|rfl|rfl|rfl|rfl|rfl|rfl|rfl|rfl|rfl|rfl|rfl|rfl|rfl|rfl|rfl|rfl|rfl|rfl<;>exact⟨⟨_,_,rfl,by decide,by decide,by decide,by decide,by decide⟩,by rfl,by rfl⟩
theorem aLD (x:TkR) (hx:wO x) (r:List UInt8) (hr:aK0 r):mQ (jN x++r)=(x,(jN x).length,0)/\∃c t,jN x=c::t/\uI c=false:=by
 obtain⟨k,n,t⟩:=x;rcases hx with⟨rfl,rfl,h3⟩|⟨rfl,rfl,h3⟩|⟨rfl,h2,rfl⟩|⟨rfl,rfl⟩
 ·have hp:jN ⟨1,0,t⟩=t:=rfl
  rw[hp];obtain⟨⟨c,q,rfl,h34,KO,hd,hl,hb⟩,-,Gj⟩:=aH3 t h3 [];have hf:gE.find? (fun y=>y.isPrefixOf (c::q++r))=some (c::q):=by
   rcases hr with rfl|⟨q',rfl⟩
   ·rw[fE];exact Gj
   ·exact(aH3 _ h3 q').2.1
  refine⟨?_,c,q,rfl,hb⟩;rw[aP]at hf ⊢;rw[iR];rw[if_neg h34,if_neg (fun h=>h.elim KO (fun h=>by rw[hd]at h;cases h)),if_neg (by rw[hl];decide),hf]
 ·have hp:jN ⟨2,0,t⟩=t:=rfl
  rw[hp];cases t with
  |nil=>cases h3
  |cons c q=>
   unfold aCw at h3;obtain⟨h4,h5⟩:=bH.1 h3;have hl:=of_decide_eq_true (show decide (97<=c.toNat/\c.toNat<=122\/65<=c.toNat/\c.toNat<=90\/c.toNat=95)=true from h4);have hd:iM c=false:=dB hO;have hn:(c::q).all nbS=true:=by rw[jW];unfold nbS;rw[h4];exact h5
   have Ca:=aE7 nbS (c::q) r hn uAv hr;refine⟨?_,c,q,rfl,dB hO⟩;rw[aP]at Ca ⊢;rw[iR];rw[if_neg hO,if_neg (fun h=>h.elim hO (fun h=>by rw[hd]at h;cases h)),if_pos h4,Ca]
 ·have hp:jN ⟨3,n,[]⟩=Lib.itoa n:=rfl
  rw[hp];obtain⟨c,q,he,hc,ha,h34,hb⟩:=aEF n;have Ca:=aE7 iM q r ha uAv hr;exact Ah0
 ·exact Ae2
theorem aPA {l r:List UInt8} {p:Nat} (hp:p<=l.length) (h:l.drop p=r):l.length=p+r.length:=by
 have:=aU List.length h;rw[cG]at this;omega
theorem aMs (x:TkR) (xs:List TkR):∃r,oU (x::xs)=jN x++r/\aK0 r/\(xs=[]->r=[])/\(xs≠[]->r=32::oU xs):=by
 cases xs with
 |nil=>exact⟨[],by rw[oU,fE],.inl rfl,fun _=>rfl,fun h=>absurd rfl h⟩
 |cons y l=>exact⟨_,rfl,.inr ⟨_,rfl⟩,fun h=>absurd h uAy,fun _=>rfl⟩
theorem aCG (l:List UInt8):∀(xs:List TkR) (p:Nat) (b:Bool),(∀x∈xs,wO x)->p<=l.length->l.drop p=(if b then[32]else[])++oU xs->
  ∃ts,mR l (l.length+1) p=(ts,0,0)/\ts.map Tok.r=xs
 |[],p,b,_,hp,hd=>by
  have hn:=aBx l p b [] (by rw[hd];rfl) (fun c t e=>by cases e);rw[aAs l p hp,hn];exact⟨[],by simp[mQ,gS,zTk],rfl⟩
 |x::xs,p,b,hg,hp,h=>by
  obtain⟨r,hj,hr,h1,h2⟩:=aMs x xs;rw[hj]at h;obtain⟨ht,c,t,hc,hb⟩:=aLD x (hg x aZ) r hr;have hn:=aBx l p b (jN x++r) h (fun c' t' e=>by
   rw[hc,aP]at e;rw[<-(List.cons.inj e).1];exact hb)
  rw[ht]at hn;simp only[xO]at hn;have hk:x.k≠0:=by
   rcases hg x aZ with h|h|h|h<;>(have:=h.1;omega)
  have an:=aPA hp h;rw[aB,aB]at an;have af:(if b=true then[(32:UInt8)]else[]).length=if b then 1 else 0:=by cases b<;>rfl
  rw[af]at an;have he:p+(if b then 1 else 0)+(jN x).length<=l.length:=by omega
  have hd:l.drop (p+(if b then 1 else 0)+(jN x).length)=r:=by
   rw[<-gH,<-gH,h];cases b<;>simp
  obtain⟨ts,u6,hm⟩:∃ts,mR l (l.length+1) (p+(if b then 1 else 0)+(jN x).length)=(ts,0,0)/\ts.map Tok.r=xs:=by
   by_cases hx:xs=[]
   ·exact aCG l xs _ false (fun y hy=>hg y (bF _ hy)) he (by rw[hd,h1 hx,hx];rfl)
   ·exact aCG l xs _ true (fun y hy=>hg y (bF _ hy)) he (by rw[hd,h2 hx];rfl)
  refine⟨gS (p+(if b then 1 else 0)) x (jN x).length::ts,?_,by rw[cA,hm];rfl⟩;rw[aAs l p hp,hn];simp only[gS,ne_eq,not_true,aLk,hk,u6,xO]
theorem aQj (l:List UInt8) (_:(uJ l).2.2=0):∃ts,uJ (oU ((uJ l).1.map Tok.r))=(ts,0,0)/\ts.map Tok.r=(uJ l).1.map Tok.r:=
 aCG _ _ 0 false (fun x hx=>by obtain⟨t,ht,rfl⟩:=dH.1 hx;exact aCF l _ 0 t ht) (aS _) rfl
theorem aRB (s:ByteArray) (p:Nat) (w:World) (hT:T13 w) (hp:p<=s.size) (hs:s.size<=2000000):Calls Tryz.prog 49 #[.string s,.int .i64 (p:Int)] w fun e w'=>∃E,e=.returned (.tuple #[aFq (cB s.data.toList p).1,E])/\rH w' E (cB s.data.toList p).2.2 ((cB s.data.toList p).2.1:Nat)/\Below w.heap.size w w':=
 (zI s p w hT hp hs).mono fun _ _ ⟨E,h1,h2,h3⟩=>⟨E,h1,h2.v,h3⟩
def Tok.i (t:Tok):aA4:=⟨t.k,t.a,t.e,t.n,⟨t.t.toArray⟩⟩
theorem TkL.ti {T:TypeId} {w:World} {v:Value} {l:List Tok} (h:TkL T w v l):TiL w v (l.map Tok.i):=by
 obtain⟨a,c,h1,h2,h3⟩:=h;rcases fN l.length with h0|h0
 ·refine⟨a,c,0,0,by rw[aM];exact h1,by rw[aM];exact h2,fun h=>by rw[aM]at h;omega,fun j h=>by rw[aM]at h;omega⟩
 ·obtain⟨g,cs,fr,rfl,h5,h6⟩:=h3 h0
  refine⟨_,c,g,0,by rw[aM];exact h1,by rw[aM];exact h2,fun _=>rfl,fun j hj=> ?_⟩;rw[aM]at hj;intro k u hu;rw[eA];refine aG h5 (h6 j hj k u ?_);rw[<-hu,List.getElem_map,Array.getElem?_toList];rfl
def yF (x:aA4):List UInt8:=if x.k=1\/x.k=2 then x.t.data.toList else if x.k=3 then Lib.itoa x.n else if x.k=4 then gI x.t.data.toList else[]
def mW:List aA4->List UInt8
 |[]=>[]
 |[x]=>yF x
 |x::y::l=>yF x++32::mW (y::l)
theorem aCL:∀(l:List aA4) (x:aA4),mW (l++[x])=(if l=[]then[]else mW l++[32])++yF x
 |[],x=>rfl
 |[a],x=>by simp[mW]
 |a::b::l,x=>by
  have h:=aCL (b::l) x;rw[if_neg uAy]at h;show yF a++32::mW (b::l++[x])=_;rw[h,if_neg uAy];simp[mW]
theorem yJ (l:List aA4) {j:Nat} (h:j<l.length):mW (l.take (j+1))=(if j=0 then[]else mW (l.take j)++[32])++yF l[j]:=by
 rw[bP h,aCL];by_cases h0:j=0
 ·subst h0;simp
 ·rw[if_neg h0,if_neg (fun e=>by have:=aU List.length e;rw[bQ]at this;simp only[aK]at this;omega)]
theorem aHN (l:List aA4):∀(d j:Nat),j+d=l.length->(mW (l.take j)).length<=(mW l).length
 |0,j,h=>by rw[bC hO];exact aA _
 |d+1,j,h=>by
  have h1:=aHN l d (j+1) hO;rw[yJ l (show j<l.length by omega)]at h1;by_cases h0:j=0
  ·subst h0;simp[mW]
  ·rw[if_neg h0]at h1
   simp only[aB]at h1;omega
theorem aJq (l:List aA4) {j:Nat} (h:j<l.length):(mW (l.take j)).length+1+(yF l[j]).length<=(mW l).length+1:=by
 have h1:=aHN l (l.length-(j+1)) (j+1) hO;rw[yJ l h]at h1;by_cases h0:j=0
 ·subst h0;simp[mW]at h1 ⊢;omega
 ·rw[if_neg h0]at h1
  simp only[aB,aD,aK]at h1;omega
theorem aSF {ops:Array Oper} {rest:List Oper} {o:Oper} {a:Act} {w:World} {Q:Exit->Act->World->Prop} (j9:Region.wanted o (yielded ops a.tmps)=true) (y:Operand) (ho:o.op=.load 90 y)
  (b k:Nat) (hx:a.eval y=.pointer (some ⟨b,k,none⟩)) (cs:Array Value) (hR:w.rangeAt b k cs.toList) (hs:cs.size=5)
  (h:wpList Tryz.prog ops Q rest (a.put o.dst (.agg cs)) w):wpList Tryz.prog ops Q (o::rest) a w:=
 wpList_step fun _ hK=>by
  rw[if_pos j9];exact wp_load_mid 90 y ho b k hx _ _ hR Tryz.underlying90 rfl (by rw[bR,bM,hs]) (hK _ _ h)
theorem aG1:∀ts:List Tok,mW (ts.map Tok.i)=oU (ts.map Tok.r)
 |[]=>rfl
 |[_]=>rfl
 |x::y::l=>by
  have:=aG1 (y::l);simp only[cA]at this ⊢;rw[mW,oU,this];rfl
theorem aJp (x:TkR) (l:List TkR):(oU (x::l)).length<=(jN x).length+1+(oU l).length:=by
 cases l with
 |nil=>simp[oU]
 |cons y l=>rw[oU,aB,aD];omega
theorem aHH (l:List UInt8):∀(f p:Nat),p<=l.length->(oU ((mR l f p).1.map Tok.r)).length+4*p<=4*l.length/\∀t∈(mR l f p).1,t.t.length<=l.length
 |0,p,hp=>by simp[mR,oU];omega
 |f+1,p,hp=>by
  unfold mR;dsimp only;by_cases h1:(cB l p).2.2=0
  ·have hk:=sA l p hp h1
   by_cases h2:(cB l p).1.k=0
   ·simp[h1,h2,oU];omega
   ·have h3:=aHH l f (cB l p).1.e hk.2.2.1
    have h4:=aEt l p h1 h2;simp only[h1,h2,ne_eq,not_true,aLk];split
    ·refine⟨?_,fun t ht=> ?_⟩
     ·rw[cA]
      have:=aJp (cB l p).1.r ((mR l f (cB l p).1.e).1.map Tok.r);have:=h3.1;have:=hk.1;omega
     ·rcases bL.1 ht with rfl|ht
      ·have:=hk.2.2.1;omega
      ·exact h3.2 t ht
    ·exact⟨by simp[oU];omega,fun t ht=>by cases ht⟩
  ·simp[h1,oU];omega
theorem aQg (l:List UInt8):(mW ((uJ l).1.map Tok.i)).length<=4*l.length/\∀t∈(uJ l).1,t.t.length<=l.length:=by
 rw[aG1];have:=aHH l (l.length+1) 0 (aS _);exact⟨by have:=this.1;unfold uJ;omega,this.2⟩
def aHh (ts:List Tok) (r:List Tok×Nat×Int):List Tok×Nat×Int:=(if r.2.2=0 then ts++r.1 else[],r.2)
theorem aM2 (l:List UInt8) (ts:List Tok) (p:Nat) (hp:p<=l.length):aHh ts (mR l (l.length+1) p)=
  if(cB l p).2.2≠0 then([],(cB l p).2)else if(cB l p).1.k=0 then(ts,0,0)else aHh (ts++[(cB l p).1]) (mR l (l.length+1) (cB l p).1.e):=by
 rw[aAs l p hp];unfold aHh;by_cases h1:(cB l p).2.2=0
 ·by_cases h2:(cB l p).1.k=0
  ·simp[h1,h2]
  ·by_cases h3:(mR l (l.length+1) (cB l p).1.e).2.2=0
   ·simp[h1,h2,h3]
   ·simp[h1,h2,h3]
 ·simp[h1]
theorem aOb (r:List Tok×Nat×Int) (h:r.2.2≠0->r.1=[]):aHh [] r=r:=by
 obtain⟨a,b,c⟩:=r;unfold aHh;by_cases h0:c=0
 ·simp[h0]
 ·simpa[h0]using(h h0).symm
theorem aOS (l:List UInt8):∀(f p:Nat),(mR l f p).2.2≠0->(mR l f p).1=[]
 |0,_,h=>rfl
 |f+1,p,h=>by
  unfold mR at h ⊢;dsimp only at h ⊢;by_cases h1:(cB l p).2.2=0
  ·by_cases h2:(cB l p).1.k=0
   ·simp[h1,h2]
   ·by_cases h3:(mR l f (cB l p).1.e).2.2=0
    ·simp[h1,h2,h3]at h
    ·simp[h1,h2,h3]
  ·simp[h1]
theorem aSp (l:List UInt8):uJ l=aHh [] (mR l (l.length+1) 0):=(aOb _ fun h=>((aOS l _ 0 h))).symm
theorem aJa {B:Nat} {e:TypeId} {w:World} (h:B<=w.heap.size):bW B e 5 (.slice none 0 0) ((([]:List Tok)).map bN) w:=⟨⟨rfl,.inl ⟨rfl,rfl⟩⟩,h,fun c hc=>by cases hc⟩
theorem aLU {B:Nat} {e:TypeId} {s:Nat} {v:Value} {cs:List (Array Value)} {w:World} (h:bW B e s v cs w):∀X,v.ownBlock=some X->X<w.heap.size:=fun X e=>by
 obtain⟨_,_,h1⟩:=h.typed' X e;exact(gZ h1)
theorem aNK (t:Tok):(bN t).all (·.oneCell')=true:=by simp[bN,Value.oneCell']
section
variable {T : TypeId} {w w' : World} {v : Value} {l : List Tok}
theorem bW.tkl {B:Nat} (h:bW B T 5 v (l.map bN) w):TkL T w v l:=by
 have hr:=h;obtain⟨⟨_,h2⟩,_,_⟩:=h;rw[aM]at h2;rcases h2 with⟨rfl,h0⟩|⟨g,cap,aj,fz,rfl,_,hg,_,h3,h4,_,_⟩
 ·exact⟨none,0,by rw[h0],by omega,fun h=>by omega⟩
 ·refine⟨_,cap,rfl,by omega,fun _=>⟨g,aj,fz,rfl,hg,fun j hj k u hu=> ?_⟩⟩
  have h:=hr.read rfl (i:=j) (c:=bN l[j]) uHw k u (by rw[Array.getElem?_toList];exact hu);rw[cell_of_row w g _ aj T fz hg]at h;exact h
end
end Go.Proofs.YthmfgidbcghnfaaGreatDoor
namespace Go.Proofs.YthmfgidbcghnfaaGreatDoor
namespace Tr
open Go.RowKit
end Tr
theorem aMC:kL jH:=by
 rw[iA];refine⟨fun x hx=> ?_,Or.inl ⟨by decide,by decide,by decide,aJt,rfl,rfl⟩⟩;exact absurd hx gL
end Go.Proofs.YthmfgidbcghnfaaGreatDoor
namespace Go.Proofs.YthmfgidbcghnfaaGreatDoor
open Go.RowKit
theorem aNp:aQk jH:=⟨aMC,by simp[gJ,fP],by simp[eW,cU]⟩
theorem aNA (B:Nat):kK B jH:=fO.2 ⟨aS _,fun _ h=>uOu,fun _ h=>uOu⟩
theorem aLu:fQ jH:=⟨aNp,aNA _⟩
end Go.Proofs.YthmfgidbcghnfaaGreatDoor
