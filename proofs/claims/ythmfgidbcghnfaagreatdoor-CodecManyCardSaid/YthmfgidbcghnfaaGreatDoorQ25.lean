import Derived.Test.YthmfgidbcghnfaaGreatDoorQ0
import Derived.Test.YthmfgidbcghnfaaGreatDoorQ20
import Derived.Test.YthmfgidbcghnfaaGreatDoorQ24
set_option maxRecDepth 1000000
set_option maxHeartbeats 8000000
set_option linter.unusedSimpArgs false
namespace Go.Proofs.YthmfgidbcghnfaaGreatDoor
open Go.RowKit
theorem qX {a:Tr} (h:kL a):(a.k<=3/\iB (a.k,a.n,kb a.t)=0/\InR a.n/\a.ks=[]/\a.xs=[])\/
  (a.n=0/\a.t=⟨#[]⟩/\(a.k=4\/a.k=5\/a.k=6)/\(a.k≠5->a.ks=[])/\(a.k=5->a.ks.length=a.xs.length/\a.ks.Pairwise fun a b=>kb a<kb b)/\(a.k=6->a.xs.Pairwise fun a b=>dW a<dW b)):=by
 rcases(iA.1 h).2 with⟨_,h1,h2,h3,h4,h5⟩|⟨h1,h2,h3⟩
 ·exact .inl ⟨h1,h2,h3,h4,h5⟩
 ·refine .inr ⟨h1,h2,?_⟩
  rcases h3 with⟨e,h⟩|⟨e,h,h'⟩|⟨e,h,h'⟩
  ·exact⟨.inl e,fun _=>h,fun h=>by omega,fun h=>by omega⟩
  ·exact⟨.inr (.inl e),fun h=>absurd e h,fun _=>⟨h,h'⟩,fun h=>by omega⟩
  ·exact⟨.inr (.inr e),fun _=>h,fun h=>by omega,fun _=>h'⟩
theorem pG {k:Int} (hk:k=4\/k=5\/k=6) (n:Int) (t:ByteArray) (ks:List ByteArray) (xs:List Tr):eY (.nd k n t ks xs)=sK k::(kU k ks xs++[kR k]):=by
 rw[eY,if_neg hO,if_neg hO,if_neg hO,if_neg hO]
theorem nV (k:Int) (kz:List ByteArray) (x:Tr) (r:List Tr):nK k kz (x::r)=44::kU k kz (x::r):=by rw[nK,kU]
def aSH:Option Int->Int
 |some c=>c
 |none=>19
theorem aCV {B:Nat} (E:Value) (c:Option Int) (l:List Int) (w:World) (hg:ET w) (uq:Ch B w E c l) (hB:B<=w.heap.size):
  Calls Tryz.prog 35 #[E] w fun e w'=>e=.returned (.int .i64 (aSH c))/\Below w.heap.size w w':=by
 have hb:Below w.heap.size w (w.alloc (.cells #[.int .i64 0] 31)):=Below.newly' _ _;have HA:=iH (aSz E c l ⟨w.heap.size,0,none⟩ (.int .i64 0) (w.alloc (.cells #[.int .i64 0] 31)) (hg.below hb) (uq.later (hb.mono hB) (aA _)) (aI hB hb.size) uAy uAy);obtain⟨u,x,rfl⟩:=uq.iface;have HB:=iH hb;clear hg uq hB hb;go_enter Tryz.func35,Tryz.ntmps35;go_wp2_with fail
 refine HA.out.mono ?_;rintro e w1 (⟨k,rfl,rfl,w2,h1,rfl⟩|⟨rfl,rfl,h1⟩)
 ·have hlt:w.heap.size<w2.heap.size:=by have:=h1.size;simp at this;omega
  have hc:(w2.setCell ⟨w.heap.size,0,none⟩ (.int .i64 k)).cell? ⟨w.heap.size,0,none⟩=some (.int .i64 k):=by
   have hh:w2.heap[w.heap.size]? =some (.cells #[.int .i64 0] 31 (0,0)):=by rw[h1.block w.heap.size uAy];exact heap_alloc_new w _
   simp[World.setCell,World.cell?,Array.getElem?_modify,hh]
  have H1:=iH h1;clear h1 hlt;go_wp2_with fail
  go_ret;exact⟨rfl,((HB.out.trans (H1.out.mono uAy)).setCell (p:=⟨w.heap.size,0,none⟩) (aA _) _)⟩
 ·have H1:=iH h1
  clear h1;go_wp2_with fail
  go_ret;exact⟨rfl,HB.out.trans (H1.out.mono uAy)⟩
theorem yW:∀(n:Nat) (l:List UInt8) (k:Nat) (o:List UInt8),l.length<=n->(iV l k o).2.2=0\/(iV l k o).2.2=2\/(iV l k o).2.2=10
 |0,l,k,o,h=>by
  exact Ah5
 |n+1,l,k,o,h=>by
  rw[iV.eq_def];split
  ·simp
  ·rename_i c r
   simp only[aD]at h ⊢;split
   ·simp
   ·split
    ·simp
    ·split
     ·exact yW n r (k+1) (o++[c]) hO
     ·split
      ·simp
      ·rename_i d r
       simp only[aD]at h ⊢;split
       ·split
        ·simp
        ·rename_i x _
         exact yW n r (k+2) (o++[x]) hO
       ·split
        ·simp
        ·rename_i h1 r
         simp only[aD]at h ⊢;split
         ·simp
         ·split
          ·simp
          ·rename_i h2 r
           simp only[aD]at h ⊢;split
           ·simp
           ·exact yW n r (k+4) _ hO
theorem aFj (l:List UInt8):(cF l).2.2=0\/(cF l).2.2=2\/(cF l).2.2=10:=by
 unfold cF;split
 ·simp
 ·split
  ·simp
  ·exact yW _ _ 1 [] (aA _)
theorem aJi (l:List UInt8):(eO l).2=0\/(eO l).2=2\/(eO l).2=4:=by
 have hs:∀r b,(gK r b).2=0\/(gK r b).2=2\/(gK r b).2=4:=fun r b=>by
  unfold gK chk
  repeat' split
  all_goals simp
 unfold eO
 repeat' split
 all_goals first
  |exact hs _ _
  |simp
def aLB (l:List UInt8) (b:Nat):Tok×Nat×Int:=
 if(cF (l.drop b)).2.2=0 then(⟨4,b,b+(cF (l.drop b)).2.1,0,(cF (l.drop b)).1⟩,0,0)else(⟨0,0,0,0,[]⟩,b+(cF (l.drop b)).2.1,(cF (l.drop b)).2.2)
def aLM (l:List UInt8) (b:Nat):Tok×Nat×Int:=
 match gE.find? fun x=>x.isPrefixOf (l.drop b)with
  |some x=>(⟨1,b,b+x.length,0,x⟩,0,0)
  |none=>(⟨0,0,0,0,[]⟩,b,2)
theorem aMk (c:UInt8) (w:World):Calls Tryz.prog 81 #[.int .u8 (c.toNat:Int)] w fun e w'=>e=.returned (.bool (uI c))/\w=w':=by
 go_enter Tryz.func81,Tryz.ntmps81;go_wp2
 all_goals
  go_ret;refine⟨nN ?_,rfl⟩;unfold uI;simp only[eK,aE,ne_eq]at*
  first
   |(rw[aLl,eI];omega)
   |(rw[aLl,iD];omega)
theorem yH (c:UInt8) (w:World):Calls Tryz.prog 83 #[.int .u8 (c.toNat:Int)] w fun e w'=>e=.returned (.bool (iM c))/\w=w':=by
 go_enter Tryz.func83,Tryz.ntmps83;go_wp2
 all_goals
  go_ret;refine⟨nN ?_,rfl⟩;unfold iM;first
   |(rw[aLl,eI];omega)
   |(rw[aLl,iD];omega)
   |(rw[aB9];omega)
theorem xX (c:UInt8) (w:World):Calls Tryz.prog 85 #[.int .u8 (c.toNat:Int)] w fun e w'=>e=.returned (.bool (uW c))/\w=w':=by
 go_enter Tryz.func85,Tryz.ntmps85;go_wp2
 all_goals
  go_ret;refine⟨nN ?_,rfl⟩;unfold uW;first
   |(rw[aLl,eI];omega)
   |(rw[aLl,iD];omega)
   |(rw[aB9];omega)
   |(rw[Bool.eq_iff_iff];simp only[vD,eK,eI];omega)
theorem aMj (c:UInt8) (w:World):Calls Tryz.prog 87 #[.int .u8 (c.toNat:Int)] w fun e w'=>e=.returned (.bool (nbS c))/\w=w':=by
 have HL:=iH (fun W=>xX c W);have HD:=iH (fun W=>yH c W);have HN:Hid (nbS c=(uW c||iM c)):=rfl;generalize uW c=a at*
 generalize iM c=b at*
 cases a<;>cases b
 all_goals
  go_enter Tryz.func87,Tryz.ntmps87;go_wp2_with (first
   |(go_at_call 85;refine(HL.out _).mono ?_;rintro r V ⟨rfl,rfl⟩)
   |(go_at_call 83;refine(HD.out _).mono ?_;rintro r V ⟨rfl,rfl⟩))
  go_ret;exact⟨nN (by rw[HN.out];rfl),rfl⟩
theorem aAr (f:Nat) (p:UInt8->Bool) (Am:∀args w,(callFunc f args).run Tryz.prog w=.ok (.enter f args) w)
  (hf:∀(c:UInt8) (W:World),Calls Tryz.prog f #[.int .u8 (c.toNat:Int)] W fun e w'=>e=.returned (.bool (p c))/\W=w')
  (s:ByteArray) (a:Nat) (w:World) (ha:a<=s.size) (hs:s.size<=2000000):
  Calls Tryz.prog 80 #[.string s,.int .i64 (a:Int),.func (.func f) #[] #[]] w fun e w'=>(∃k:Nat,a<=k/\k<=s.size/\e=.returned (.int .i64 (k:Int))/\(∀j (h:j<s.size),a<=j->j<k->p s[j]=true)/\(k=s.size\/∃h:k<s.size,p s[k]=false))/\w=w':=by
 have HF:=iH hf;have Gp:(s.size:Int)<=2000000:=by omega
 clear hf;go_enter Tryz.func80,Tryz.ntmps80;go_wp2_with fail
 go_loopw [1] (fun i wr=>∃k:Nat,a<=k/\k<=s.size/\i=.int .i64 (k:Int)/\(∀j (h:j<s.size),a<=j->j<k->p s[j]=true)/\wr=w) (fun i _=>s.size-(intOf i).toNat)
 case atStart=>exact⟨a,aA _,ha,rfl,fun j _ h1 h2=>absurd h1 hO,rfl⟩
 case round=>
  obtain⟨k,Rb,gd,rfl,hd,rfl⟩:=hrel;have HD:=iH hd;clear hd;by_cases hlt:k<s.size
  ·have l0:(k:Int)<s.size:=by omega
   obtain⟨b,hb⟩:∃b,p s[k]=b:=⟨_,rfl⟩
   have Xz:=HF.out s[k];rw[hb]at Xz;have Ma:=iH Xz;have HB:=iH hb;clear Xz hb;cases b with
   |true=>
    go_wp2_with fail
    refine(Ma.out _).mono ?_;rintro r V ⟨rfl,rfl⟩;go_wp2_with fail
    go_roundw
    case rel=>exact⟨k+1,by omega,by omega,by go_num,fun j h1 h2 h3=>(by
     rcases eB j k with h4|h4
     ·exact HD.out j h1 h2 h4
     ·obtain rfl:j=k:=by omega
      exact HB.out),trivial⟩
    case measure=>simp[intOf];omega
   |false=>
    go_wp2_with fail
    refine(Ma.out _).mono ?_;rintro r V ⟨rfl,rfl⟩;go_wp2_with fail
    go_ret;exact⟨⟨k,Rb,gd,rfl,HD.out,.inr ⟨hlt,HB.out⟩⟩,rfl⟩
  ·obtain rfl:k=s.size:=by omega
   go_wp2_with fail
   go_ret;exact⟨⟨s.size,Rb,gd,rfl,HD.out,.inl rfl⟩,rfl⟩
theorem aL3 {W:World} {c:Array Value} {T:TypeId} {w1:World} (e:W.alloc (.cells c T)=w1):Below W.heap.size W w1/\w1.heap[W.heap.size]? =some (.cells c T (0,0))/\w1.heap.size=W.heap.size+1:=by
 exact Am5
theorem cW.four {S:Nat->Prop} {W:World} {c:Array Value} {l:List Cel} (h:cW S W c l):∃(x y:Int) (q1:Option Addr) (n1 c1:Nat) (q2:Option Addr) (n2 c2:Nat),c=#[.int .i64 x,.int .i64 y,.slice q1 n1 c1,.slice q2 n2 c2]:=by
 obtain⟨d,q1,n1,c1,q2,n2,c2,rfl,_⟩:=h.cells;exact⟨_,_,_,_,_,_,_,_,rfl⟩
theorem aAg {S:Nat->Prop} {c:Array Value} {l:List Cel} (w:World) (h:cW S w c l) (i:Int):Calls Tryz.prog 242 #[.agg c,.int .i64 i] w fun e w'=>e=.returned (.bool (decide (0<=i/\i<l.length)))/\Below w.heap.size w w':=by
 obtain⟨w1,ag⟩:∃w1,w.alloc (.cells c 127)=w1:=⟨_,rfl⟩
 obtain⟨af,ai,al⟩:=aL3 ag;have HX1:=iH ai;have HB1:=iH af;have HS:=iH h.size;have bz:=iH (aFz w1 (h.later af));obtain⟨n,hn⟩:∃n,n=l.length:=⟨_,rfl⟩
 rw[<-hn]at bz ⊢;clear h af ai al hn;by_cases h0:0<=i
 ·by_cases h1:i<n
  ·rw[show decide (0<=i/\i<n)=true by simp[h0,h1]]
   go_enter Tryz.func242,Tryz.ntmps242;go_upto_region 1 with fail
   clear ag;go_wp2_with (first
    |(refine aW rfl 127 _ rfl w.heap.size rfl 127 _ _ _ HX1.out Tryz.underlying127 rfl uEy ?_)
    |(go_at_call 63;refine bz.out.mono ?_;rintro e w2 ⟨rfl,rfl⟩))
   go_ret;exact⟨rfl,HB1.out.trans ((Below.newly' _ _).mono HB1.out.size)⟩
  ·rw[show decide (0<=i/\i<n)=false by simp[h1]]
   go_enter Tryz.func242,Tryz.ntmps242;go_upto_region 1 with fail
   clear ag;go_wp2_with (first
    |(refine aW rfl 127 _ rfl w.heap.size rfl 127 _ _ _ HX1.out Tryz.underlying127 rfl uEy ?_)
    |(go_at_call 63;refine bz.out.mono ?_;rintro e w2 ⟨rfl,rfl⟩))
   go_ret;exact⟨by show Ending.returned (Value.bool (decide (i<(n:Int))))=_;simp[h1],HB1.out.trans ((Below.newly' _ _).mono HB1.out.size)⟩
 ·rw[show decide (0<=i/\i<n)=false by simp[h0]]
  go_enter Tryz.func242,Tryz.ntmps242;go_wp2_with fail
  go_ret;exact⟨rfl,HB1.out⟩
theorem rp_Of (W:World) {S:Nat->Prop} (v:Value) (l:List Cel) (hv:bY S W 4 v (ivV l) l.length) (hN:l.length<=100000):
    Calls Tryz.prog 114 #[v] W fun e W'=>∃c,e=.returned (.agg c)/\cW (fun g=>W.heap.size<=g) W' c l/\Below W.heap.size W W':=by
  obtain⟨w1,ag⟩:∃w1,W.alloc (.cells #[.int .i64 0,.int .i64 0,.slice none 0 0,.slice none 0 0] 127)=w1:=⟨_,rfl⟩
  obtain⟨af,ai,al⟩:=aL3 ag;have HX1:=iH ai;have HB1:=iH af;have HS1:=iH al;have HL:=iH (aCH (S:=S) w1 [(v,l)] (fun p hp=>by simp only[bV]at hp;subst hp;exact hv.later af) l (by simp[fB]) hN uAy);obtain⟨a,cap,rfl,_⟩:=hv.shape;have HN:=iH hN;clear af ai al hv hN;go_enter Tryz.func114,Tryz.ntmps114;go_upto_region 1 with fail
  clear ag;go_wp2_with (first
    |(go_at_call 152
      refine HL.out.mono ?_;rintro e w4 ⟨v4,rfl,ks,sj,tg,tw,bh⟩;have HT:=iH (aJ8 w4 0 v4 ks sj (fun p hp=>⟨fun h=>(tw.2 p hp).1 h,fun _=>.inl rfl⟩) (by rw[tg];exact HN.out));rw[tg]at HT;have bg:=iH bh;have bw:=iH ((bh.block W.heap.size uBu).trans HX1.out);clear sj tg tw bh)
    |(go_at_call 151
      refine HT.out.mono ?_;rintro e w5 ⟨c5,rfl,yf,ay⟩;obtain⟨x,y,q1,n1,c1,q2,n2,c2,rfl⟩:=yf.four;have nu:=iH yf;have bp:=iH ay;have fg:=iH ((ay.block W.heap.size (by have:=HS1.out;have:=bg.out.size;omega)).trans bw.out);clear yf ay)
    |(refine aV rfl 127 _ _ rfl W.heap.size _ rfl rfl 127 _ fg.out dM rfl (aJj rfl rfl rfl rfl) ?_;intro w6 h6 k6))
  refine aN (bE rfl _ _ W.heap.size 127 _ (0,0) _ rfl h6 Tryz.underlying127 rfl dM) rfl ⟨_,rfl,?_,?_⟩
  ·have al:=HS1.out
   have Ac:=bg.out.size;refine(nu.out.kept k6.by_ (fun X e=>by cases e;rintro(h|h)<;>omega)).weak fun g hg=> ?_
   rcases hg with hg|hg<;>omega
  ·have al:=HS1.out
   have Ac:=bg.out.size;exact((HB1.out.trans (bg.out.mono hO)).trans (bp.out.mono hO)).trans (k6.below hO)
theorem aJ0 {a:Tr} (h:fQ a):(tal a.xs).length<=63:=by rw[fM];exact h.depL
theorem aFt {a:Tr} (h:fQ a):aNc (tal a.xs):=wY (aI h.len hO)
theorem VAt.two {S:Nat->Prop} {w:World} {a:Tr} {x:Cel} (h:VAt S w a x) (ha:fQ a) (h4:4<=a.k):x.n=0/\x.t=⟨#[]⟩:=by
 have:=ha.inner h4;rw[h.n,h.t,this.1,this.2];exact⟨rfl,rfl⟩
theorem vV {k:Int} {l:List Cel} (h:k=4):sP k l=l:=if_pos h
theorem vW {k:Int} {l:List Cel} (h:k≠4):sP k l=[]:=if_neg h
theorem aCC {k:Int} {ks:List ByteArray} {xs:List Tr} {l:List Cel} (h:k=4):nR k ks xs l=[]:=by
 unfold nR qD;rw[if_neg hO,if_neg hO];rfl
theorem aQG (B:Nat) (a:Tr):OkT a->kK B a->kK B (cP a):=by
 induction a using kD with
 |h k n t ks xs ih=>
  intro ho ht;rw[rO]at ho;simp only[Tr.k,Tr.n,Tr.t,Tr.ks,Tr.xs]at ho;obtain⟨h1,h2,h3⟩:=fO.1 ht;simp only[Tr.k,Tr.n,Tr.t,Tr.ks,Tr.xs]at h1 h2 h3;have hp:∀y∈lB xs,kK B y:=by
   intro y hy;rw[kJ]at hy;exact Al0
  rw[cP];split
  ·refine fO.2 ⟨h1,fun y hy=> ?_,fun y hy=> ?_⟩
   ·obtain⟨q,hq,rfl⟩:=dH.1 (show y∈(oE kbF (ks.zip (lB xs))).map (·.1)from hy)
    exact h2 _ (uZ ((iG (f:=kbF) _).mem_iff.1 hq)).1
   ·obtain⟨q,hq,rfl⟩:=dH.1 (show y∈(oE kbF (ks.zip (lB xs))).map (·.2)from hy)
    exact hp _ (uZ ((iG (f:=kbF) _).mem_iff.1 hq)).2
  ·split
   ·exact fO.2 ⟨h1,fun y hy=>(by cases hy),fun y hy=>hp y ((iG (f:=dW) (lB xs)).mem_iff.1 hy)⟩
   ·exact fO.2 ⟨h1,fun y hy=>(by cases hy),hp⟩
theorem aGE {a:Tr} (ho:OkT a) (hd:gJ a<=64) (hn:eW a<=16384) (hr:xR a) (ht:kK 2000000 a):fQ (cP a):=by
 have hs:=aIu a ho;exact⟨⟨aDf a ho hr,by omega,by omega⟩,aQG 2000000 a ho ht⟩
theorem aGa {l:List (List UInt8)} (h:l.Pairwise fun a b=>a<=b):(Lib.compact l).length<l.length↔¬l.Nodup:=by
 have dx:=Lib.compact_length_le l;have key:(Lib.compact l).length=l.length↔∀j,j<l.length->Lib.keeps l.toArray j=true:=by
  unfold Lib.compact Lib.compactUpTo;rw[aM];have h1:=List.length_filter_eq_length_iff (p:=Lib.keeps l.toArray) (l:=List.range l.length);rw[List.length_range]at h1;rw[h1];simp
 have Rc:(∀j,j<l.length->Lib.keeps l.toArray j=true)↔l.Nodup:=by
  constructor
  ·intro hk
   unfold List.Nodup;rw[jF]at h ⊢;intro i j hi hj CM;have uo:∀(d:Nat) (hd:i+1+d<l.length),l[i]≠l[i+1+d]:=by
    intro d;have jx:=hk (i+1+d);unfold Lib.keeps at jx;intro hd he;have h3:=jx hd;simp only[eI]at h3;rcases h3 with h3|h3
    ·omega
    ·rw[show i+1+d-1=i+d by omega]at h3
     rw[getElem!_pos _ _ (by simpa using hd),getElem!_pos _ _ uCy]at h3;simp only[List.getElem_toArray]at h3;have h4:=h (i+d) (i+1+d) hO hd hO;rcases fN d with rfl|yh
     ·exact h3 he.symm
     ·have h5:=h i (i+d) hi hO hO
      rw[<-he]at h4 h3;exact h3 (aNh h5 h4)
   have:=uo (j-i-1) hO;simp only[show i+1+(j-i-1)=j by omega]at this;exact this
  ·intro hn j hj
   unfold Lib.keeps;simp only[eI];rcases fN j with h0|h0
   ·exact .inl h0
   ·refine .inr ?_
    rw[getElem!_pos _ _ uGu,getElem!_pos _ _ uCy];simp only[List.getElem_toArray];unfold List.Nodup at hn;rw[jF]at hn;exact(hn (j-1) j hO hj hO).symm
 constructor
 ·intro hlt hn
  have:=key.2 (Rc.2 hn);omega
 ·intro hn
  rcases eB (Lib.compact l).length l.length with h1|h1
  ·exact h1
  ·exact absurd (Rc.1 (key.1 hO)) hn
theorem aD6 (l:List (List UInt8)):(Lib.compact (l.mergeSort fun x y=>decide (x<=y))).length<l.length↔¬l.Nodup:=by
 have h:=List.pairwise_mergeSort (le:=fun x y:List UInt8=>decide (x<=y)) (fun a b c h1 h2=>by simp only[eI]at h1 h2 ⊢;exact List.le_trans h1 h2) (fun a b=>by simp only[vD,eI];exact List.le_total a b) l;have hp:=List.mergeSort_perm l fun x y=>decide (x<=y)
 have h2:=aGa (h.imp fun h=>by simpa using h);rw[hp.length_eq,hp.nodup_iff]at h2;exact h2
end Go.Proofs.YthmfgidbcghnfaaGreatDoor
