import Derived.Test.YthmfgidbcghnfaaGreatDoorQ0
import Derived.Test.YthmfgidbcghnfaaGreatDoorQ34
set_option maxRecDepth 1000000
set_option maxHeartbeats 8000000
set_option linter.unusedSimpArgs false
namespace Go.Proofs.YthmfgidbcghnfaaGreatDoor
open Go.RowKit
theorem aJe (t:ByteArray) (w:World) (h0:0<t.size) (hs:t.size<=2000000) (hT:Esc w):Calls Tryz.prog 159 #[.string t] w fun e w'=>e=.returned (aQE (mP t.data.toList))/\Below w.heap.size w w':=by
 by_cases h1:1<t.size
 ·have HT:=iH hT
  clear hT;have nl:¬(t.size:Int)<2:=by omega
  by_cases hx:(t[1].toNat:Int)=120
  ·have HX:=iH (fun w=>aDN t w h1 hs hx)
   obtain⟨u,hu⟩:∃u,mP t.data.toList=u:=⟨_,rfl⟩
   rw[hu]at HX ⊢;clear hu;obtain⟨y,m,e⟩:=u;have Sr:((t[1].toNat:Int)==120)=true:=eK.2 hx;clear hx;go_enter Tryz.func159,Tryz.ntmps159;go_wp2_with fail
   refine(HX.out _).mono ?_;rintro e w1 ⟨rfl,rfl⟩;go_wp2_with fail
   go_ret3
   exact⟨rfl,bB _ _⟩
  ·have H:=iH (aQC t h1 hx)
   have HM:=iH (fun w h=>aHd t[1] w h);have Sr:((t[1].toNat:Int)==120)=false:=aE.2 hx;clear hx;cases hes:uC t[1]with
   |none=>
    rw[hes]at HM H;have HF:Hid (mP t.data.toList=(0,1,2)):=H.out;clear hes H;go_enter Tryz.func159,Tryz.ntmps159;go_wp2_with fail
    refine(HM.out _ HT.out).mono ?_;rintro e w1 ⟨rfl,hb⟩;have HW:=iH hb;clear hb;go_wp2_with fail
    go_ret3
    exact⟨by rw[HF.out];rfl,HW.out⟩
   |some y=>
    rw[hes]at HM H;have HF:Hid (mP t.data.toList=(y,2,0)):=H.out;clear hes H;go_enter Tryz.func159,Tryz.ntmps159;go_wp2_with fail
    refine(HM.out _ HT.out).mono ?_;rintro e w1 ⟨rfl,hb⟩;have HW:=iH hb;clear hb;go_wp2_with fail
    go_ret3
    exact⟨by rw[HF.out];rfl,HW.out⟩
 ·have H:Hid (mP t.data.toList=(0,1,10)):=aQD t hO
  have HS:Hid ((t.size:Int)=1):=by show _=_;omega
  have nl:(t.size:Int)<2:=by omega
  clear h1 hT;go_enter Tryz.func159,Tryz.ntmps159;go_wp2_with fail
  go_ret3
  exact⟨by rw[H.out];simp only[aQE];rw[<-show(t.size:Int)=((1:Nat):Int)from HS.out];rfl,bB _ _⟩
theorem aAa (s:ByteArray):s.toList.isEmpty=decide (s.size=0):=by
 rw[dJ,<-cY];cases s.data.toList<;>simp
theorem aSY {s:ByteArray} (h:0<s.size):¬s.toList=[]:=by
 intro e;have h1:=aAa s;rw[e,dB hO]at h1;cases h1
theorem aMQ (s:ByteArray) (k:Nat):(s.extract k s.size).data.toList=s.data.toList.drop k:=by
 simp;rw[bC uAy]
theorem aId (s:ByteArray) (k:Nat):(s.extract k s.size).size=s.size-k:=by simp
theorem aM0 (s:ByteArray) (w:World) (hs:s.size<=2000000) (hT:Esc w):Calls Tryz.prog 123 #[.string s] w fun e w'=>e=.returned (unqV (cF s.data.toList))/\Below w.heap.size w w':=by
 have HT:=iH hT;clear hT;by_cases h0:0<s.size
 ·have hn:=aSY h0
  have Ge:s.toList.isEmpty=false:=by rw[aAa];exact dB hO
  by_cases hq:(s[0].toNat:Int)=34
  ·have H:Hid (cF s.data.toList=iV (s.data.toList.drop 1) 1 []):=by
    show _=_;rw[qM s h0];show(if s[0].toNat≠34 then _ else _)=_;rw[if_neg hO];rfl
   have Jl:((s[0].toNat:Int) !=34)=false:=bne_eq_false_iff_eq.2 hq;clear hq;have HI:Hid (Buf w.heap.size (.slice none 0 0) [] w):=Buf.nil (aA _);go_enter Tryz.func123,Tryz.ntmps123;go_wp2_with fail
   go_step3
   go_wp2_with fail
   go_step3
   go_wp2_with fail
   go_loopw [5,6] (fun v i wr=>∃(k:Nat) (o:List UInt8),k<=s.size/\i=.int .i64 k/\o.length<=k/\Buf w.heap.size v o wr/\Below w.heap.size w wr/\cF s.data.toList=iV (s.data.toList.drop k) k o) (fun _ i _=>s.size-(intOf i).toNat)
   case atStart=>exact⟨1,[],h0,rfl,aS _,HI.out,bB _ _,H.out⟩
   case round=>
    obtain⟨k,o,hk,rfl,an,ot,om,heq⟩:=hrel;have HB:=iH ot;have HW:=iH om;have HE:=iH heq;have bz:=iH an;clear ot om HI heq H an Ge Jl;by_cases hlt:k<s.size
    ·have l0:(k:Int)<(s.size:Int):=by omega
     by_cases Ke:(s[k].toNat:Int)=34
     ·have HF:Hid (cF s.data.toList=(o,k+1,0)):=by
       show _=_;rw[HE.out,aLz s k hlt o Ke]
      have Y9:((s[k].toNat:Int)==34)=true:=eK.2 Ke;have e1:((k:Int)==(s.size:Int))=false:=aE.2 hO;have z8:=HB.out.str;clear Ke;exact Ag2
     have Y9:((s[k].toNat:Int)==34)=false:=aE.2 Ke;by_cases Oz:(s[k].toNat:Int)=92
     ·have Za:((s[k].toNat:Int)==92)=true:=eK.2 Oz
      have HU:=iH (fun w h=>aJe (s.extract k s.size) w (by rw[aId s k];omega) (by rw[aId s k];omega) h);have fw:=iH (aQF (s.data.toList.drop k) (by rw[cG,cY];omega));have HK:Hid (iV (s.data.toList.drop k) k o=aLA (s.data.toList.drop k) k o (mP (s.data.toList.drop k))):=by
       show _=_;rw[iK s k hlt];exact aNx _ _ _ _ hO
      rw[aMQ]at HU;obtain⟨u,hu⟩:∃u,mP (s.data.toList.drop k)=u:=⟨_,rfl⟩
      rw[hu]at HU fw HK;clear hu Oz Ke;obtain⟨y,m,e⟩:=u;have Hi:1<=m:=fw.out.2.1;have me:k+m<=s.size:=by have:=fw.out.1;rw[cG,cY]at this;simp only at this;omega
      by_cases he:e=0
      ·have HF:Hid (cF s.data.toList=iV (s.data.toList.drop (k+m)) (k+m) (o++[y])):=by
        show _=_;rw[HE.out,HK.out];unfold aLA;rw[if_pos he,gH]
       subst he;have HQ:Hid (o.length+[y].length<=140737488355328):=by
        have:=bz.out;have h1:[y].length=1:=rfl;show _<=_;omega
       go_wp2_with fail
       refine(HU.out _ (HT.out.below HW.out)).mono ?_;rintro e w1 ⟨rfl,hb⟩;have H1:=iH hb;clear hb;go_wp2_with (at_builtin;go_loud (refine cT rfl (.tmp 49) (.tmp 51) rfl rfl (HB.out.later H1.out) [y] _ rfl 1 1 rfl rfl HQ.out ?_);intro v2 w2 ah cw;have aq:=iH ah;have fu:=iH cw;clear ah cw)
       go_roundw
       case rel=>
        refine⟨k+m,o++[y],me,by go_num,?_,aq.out,(Below.go HW.out HB.out.2 H1.out).trans fu.out,HF.out⟩;have:=bz.out;rw[aB];have h1:[y].length=1:=rfl;omega
       case measure=>simp[intOf];omega
      ·have HF:Hid (cF s.data.toList=([],k+m,e)):=by
        show _=_;rw[HE.out,HK.out];unfold aLA;rw[if_neg he]
       have Uh:(e !=0)=true:=by rw[aIL];exact he
       go_wp2_with fail
       refine(HU.out _ (HT.out.below HW.out)).mono ?_;rintro e w1 ⟨rfl,hb⟩;have H1:=iH hb;clear hb;go_wp2_with fail
       try rw[Exit.noGoto_ret]
       go_ret3
       exact⟨by rw[HF.out];rfl,Below.go HW.out HB.out.2 H1.out⟩
     have Za:((s[k].toNat:Int)==92)=false:=aE.2 Oz;by_cases DR:(s[k].toNat:Int)<32
     ·have HF:Hid (cF s.data.toList=([],k,2)):=by
       show _=_;rw[HE.out,aNy s k hlt o DR]
      clear Ke Oz;exact Ag2
     ·have HF:Hid (cF s.data.toList=iV (s.data.toList.drop (k+1)) (k+1) (o++[s[k]])):=by
       show _=_;rw[HE.out,aIX s k hlt o Ke DR Oz]
      clear Ke Oz;go_wp2_with (at_builtin;go_loud (refine cT rfl (.tmp 23) (.tmp 25) rfl rfl HB.out [s[k]] _ rfl 1 1 rfl rfl uOx ?_);intro v2 w2 ah cw;have aq:=iH ah;have fu:=iH cw;clear ah cw)
      go_roundw
      case rel=>
       refine⟨k+1,o++[s[k]],by omega,by go_num,?_,aq.out,HW.out.trans fu.out,HF.out⟩;have:=bz.out;rw[aB];have h1:[s[k]].length=1:=rfl;omega
      case measure=>simp[intOf];omega
    ·have HF:Hid (cF s.data.toList=([],k,10)):=by
      show _=_;rw[HE.out,aNz s k hO o]
     have e1:((k:Int)==(s.size:Int))=true:=eK.2 hO;have l0:¬(k:Int)<(s.size:Int):=by omega
     exact Ag2
  ·have H:Hid (cF s.data.toList=([],0,2)):=by
    show _=_;rw[qM s h0];show(if s[0].toNat≠34 then _ else _)=_;rw[if_pos hO]
   have Jl:((s[0].toNat:Int) !=34)=true:=by rw[aIL];exact hq
   clear hq;exact Ag4
 ·have H:Hid (cF s.data.toList=([],0,10)):=by
   show _=_;have:s.data.toList=[]:=aQ (by rw[cY];omega);rw[this];rfl
  have Ge:s.toList.isEmpty=true:=by rw[aAa];exact gT hO
  clear h0;exact Ag4
def aTW (S:Nat) (W:World) (E:Value) (c n:Int):Prop:=∃b,S<=b/\E=.iface 152 (.pointer (some ⟨b,0,none⟩))/\W.cell? ⟨b,0,none⟩=some (.int .i64 n)/\W.cell? ⟨b,1,none⟩=some (.iface 31 (.int .i64 c))/\c≠0/\(-9223372036854775808<=c/\c<=9223372036854775807)/\(-9223372036854775808<=n/\n<=9223372036854775807)
def fR (S:Nat) (W:World) (E:Value) (c n:Int):Prop:=(c=0/\E=.nilIface)\/aTW S W E c n
theorem zR (S:Nat) (W:World) (n:Int):fR S W .nilIface 0 n:=.inl ⟨rfl,rfl⟩
theorem fR.v {S:Nat} {W:World} {E:Value} {c n:Int} (h:fR S W E c n):rH W E c n:=by
 rcases h with h|⟨b,_,rfl,h1,h2,h3,h4,h5⟩
 ·exact .inl h
 ·exact .inr ⟨h3,[],.put b n _ _ _ _ (aO W _ h1) h5 h1 h2 (.code c h4),by simp⟩
theorem fR.kept {S:Nat} {W W':World} {E:Value} {c n:Int} (h:fR S W E c n) (hk:∀b i v,S<=b->W.cell? ⟨b,i,none⟩=some v->W'.cell? ⟨b,i,none⟩=some v):fR S W' E c n:=by
 rcases h with h|⟨b,h0,rfl,h1,h2,h3⟩
 ·exact .inl h
 ·exact .inr ⟨b,h0,rfl,hk _ _ _ h0 h1,hk _ _ _ h0 h2,h3⟩
theorem fR.later {S:Nat} {W W':World} {E:Value} {c n:Int} (h:fR S W E c n) (hb:Below W.heap.size W W'):fR S W' E c n:=h.kept fun _ _ _ _ hv=>(hb.cell (aO W _ hv)).trans hv
theorem fR.but {S X:Nat} {W W':World} {E:Value} {c n:Int} (h:fR S W E c n) (k:iL X W W') (hX:X<S):fR S W' E c n:=h.kept fun b i v hb hv=>k.by_.cell hv (fun e=>by simp only[bA]at e;omega)
theorem fR.low {S S':Nat} {W:World} {E:Value} {c n:Int} (h:fR S W E c n) (hS:S'<=S):fR S' W E c n:=by
 rcases h with h|⟨b,h0,h1⟩
 ·exact .inl h
 ·exact .inr ⟨b,aI hS h0,h1⟩
theorem aCE (c:Int) (n:Nat) (w:World) (h0:c=1\/c=2\/c=4\/c=10\/c=14) (hn:n<=2000000):Calls Tryz.prog 48 #[.int .i64 c,.int .i64 (n:Int)] w fun e w'=>∃E,e=.returned E/\fR w.heap.size w' E c (n:Int)/\Below w.heap.size w w':=by
 exact Ac4
theorem aTk (s x:ByteArray) (w:World) (_:s.size<=2000000) (_:x.size<=2000000):Calls Tryz.prog 163 #[.string s,.string x] w fun e w'=>e=.returned (.bool (x.data.toList.isPrefixOf s.data.toList))/\w=w':=by
 go_enter Tryz.func163,Tryz.ntmps163;go_wp2
 ·go_ret
  refine⟨nN ?_,rfl⟩;rw[dJ,dJ,aHg,aKP,cY,rZ,Nat.sub_zero]
 ·go_ret
  refine⟨nN ?_,rfl⟩
  rename_i h
  rw[aHg,aLl,aE];intro e;have:=aU List.length e;simp at this;omega
theorem lx_hp (s x:ByteArray) (w:World) (hs:s.size<=2000000) (hx:x.size<=2000000):Calls Tryz.prog 126 #[.string s,.string x] w fun e w'=>e=.returned (.bool (x.data.toList.isPrefixOf s.data.toList))/\w=w':=by
 obtain⟨b,hb⟩:∃b,b=x.data.toList.isPrefixOf s.data.toList:=⟨_,rfl⟩
 have H:=fun W=>aTk s x W hs hx
 rw[<-hb]at H ⊢;replace H:=iH H;clear hs hx hb;go_enter Tryz.func126,Tryz.ntmps126;go_wp2_with (go_at_call 163;refine(H.out _).mono ?_;rintro r V ⟨rfl,rfl⟩)
 go_ret;exact⟨rfl,rfl⟩
theorem aON (s:ByteArray) (w:World) (hs:s.size<=2000000):Calls Tryz.prog 125 #[.string s] w fun e w'=>e=.returned (.string s)/\Below w.heap.size w w':=by
 have H:=iH (fun W=>Tryz.stringslite_Clone s W hO);clear hs;go_enter Tryz.func125,Tryz.ntmps125;go_wp2_with (go_at_call 162;refine(H.out _).mono ?_;rintro r V ⟨rfl,hb⟩;have HB:=iH hb;clear hb)
 go_ret;exact⟨rfl,HB.out⟩
theorem aPy (s:ByteArray) (p:Nat):(s.extract p s.size).data.toList=s.data.toList.drop p:=by rw[aKP,bC (by rw[cG,cY];exact aA _)]
theorem aRx (s:ByteArray) (p:Nat) (w:World) (hE:Esc w) (hp:p<=s.size) (hs:s.size<=2000000):Calls Tryz.prog 82 #[.string s,.int .i64 (p:Int)] w fun e w'=>∃E,e=.returned (.tuple #[aFq (aLB s.data.toList p).1,E])/\fR w.heap.size w' E (aLB s.data.toList p).2.2 ((aLB s.data.toList p).2.1:Nat)/\Below w.heap.size w w':=by
 have M4:=aFj (s.data.toList.drop p);have Vk:=(aCD (s.data.toList.drop p)).1;rw[cG,cY]at Vk;have hu:=fun W (hb:Below w.heap.size w W)=>aM0 (s.extract p s.size) W (by simp only[nQ];omega) (hE.below hb)
 rw[aPy]at hu;obtain⟨Q,hQ⟩:∃Q,Q=aLB s.data.toList p:=⟨_,rfl⟩
 rw[<-hQ];unfold aLB at hQ;obtain⟨u1,u2,u3,Kf⟩:∃u1 u2 u3,cF (s.data.toList.drop p)=(u1,u2,u3):=⟨_,_,_,rfl⟩
 rw[Kf]at hu M4 Vk hQ;dsimp only at M4 Vk hQ;have HU:Hid (∀W,Below w.heap.size w W->Calls Tryz.prog 123 #[.string (s.extract p s.size)] W fun e w'=>e=.returned (.tuple #[.string ⟨u1.toArray⟩,.int .i64 (u2:Int),.int .i64 u3])/\Below W.heap.size W w'):=hu;have NJ:(p:Int)+(u2:Int)<=s.size:=by omega
 have Gp:(s.size:Int)<=2000000:=by omega
 clear hu Kf hE;obtain⟨w1,ag⟩:∃w1,w1=w.alloc (.cells (bN ⟨0,0,0,0,[]⟩) 90):=⟨_,rfl⟩
 have af:Below w.heap.size w w1:=by rw[ag];exact Below.newly' _ _
 have ai:w1.heap[w.heap.size]? =some (.cells (bN ⟨0,0,0,0,[]⟩) 90 (0,0)):=by rw[ag];exact aC _ _
 have HB1:=iH af;have ew:Hid (w.heap.size<w1.heap.size):=(gZ ai)
 have HX:Hid (∀W,Below w1.heap.size w1 W->W.heap[w.heap.size]? =some (.cells (bN ⟨0,0,0,0,[]⟩) 90 (0,0))):=fun W hb=>kW hb ai
 have HW:Hid (Below w1.heap.size w1 w1):=bB _ _;clear af ai;by_cases hc:u3=0
 ·subst hc
  rw[if_pos rfl]at hQ;subst hQ;go_enter Tryz.func82,Tryz.ntmps82;go_upto_region 1 with fail
  rw[show w.alloc (.cells #[.int .i64 0,.int .i64 0,.int .i64 0,.int .i64 0,.string ⟨#[]⟩] 90)=w1 from ag.symm];clear ag;go_wp2_with (first
   |(go_at_call 123;refine(HU.out _ (tW HB1.out HW.out)).mono ?_;rintro r V ⟨rfl,hb⟩;replace HW:=iH (tW HW.out hb);clear hb)
   |(refine aV rfl 90 _ _ rfl w.heap.size (bN ⟨4,p,p+u2,0,u1⟩) rfl rfl 90 (bN ⟨0,0,0,0,[]⟩) (HX.out _ HW.out) bR rfl uBw ?_;intro w8 h8 k8))
  exact Ae0
 ·have HF:=iH (fun W=>aCE u3 (p+u2) W hO hO)
  have CW:(u3==0)=false:=aE.2 hc;rw[if_neg hc]at hQ;subst hQ;clear M4 Vk;go_enter Tryz.func82,Tryz.ntmps82;go_upto_region 1 with fail
  rw[show w.alloc (.cells #[.int .i64 0,.int .i64 0,.int .i64 0,.int .i64 0,.string ⟨#[]⟩] 90)=w1 from ag.symm];clear ag;go_wp2_with (first
   |(go_at_call 123;refine(HU.out _ (tW HB1.out HW.out)).mono ?_;rintro r V ⟨rfl,hb⟩;replace HW:=iH (tW HW.out hb);clear hb)
   |(go_at_call 48;have H0:=HW.out.size;refine(HF.out _).mono ?_;rintro r V ⟨E,rfl,he,hb⟩;replace HW:=iH (tW HW.out hb);have sz:=iH he;have HS:=iH H0;clear hb he H0)
   |(refine aV rfl 90 _ _ rfl w.heap.size (bN ⟨0,0,0,0,[]⟩) rfl rfl 90 (bN ⟨0,0,0,0,[]⟩) (HX.out _ HW.out) bR rfl uBw ?_;intro w8 h8 k8))
  exact Ad0
theorem aEw (s:ByteArray) (p k:Nat) (w:World) (hp:p<=k) (hk:k<=s.size) (hs:s.size<=2000000):Calls Tryz.prog 84 #[.string s,.int .i64 (p:Int),.int .i64 (k:Int)] w fun e w'=>∃E,e=.returned (.tuple #[aFq (aFQ s p k).1,E])/\fR w.heap.size w' E (aFQ s p k).2.2 ((aFQ s p k).2.1:Nat)/\Below w.heap.size w w':=by
 have M4:=aJi (s.extract p k).data.toList;have hu:=fun W=>aMa (s.extract p k) W (by unfold maxLen;simp only[nQ];omega)
 obtain⟨Q,hQ⟩:∃Q,Q=aFQ s p k:=⟨_,rfl⟩
 rw[<-hQ];unfold aFQ at hQ;obtain⟨u1,u3,Kf⟩:∃u1 u3,eO (s.extract p k).data.toList=(u1,u3):=⟨_,_,rfl⟩
 rw[Kf]at hu M4 hQ;dsimp only at M4 hQ;have HU:Hid (∀W,Calls Tryz.prog 124 #[.string (s.extract p k)] W fun e w'=>e=.returned (.tuple #[.int .i64 u1,.int .i64 u3])/\W=w'):=hu;have wt:(p:Int)<=k:=by omega
 have Og:(k:Int)<=s.size:=by omega
 clear hu Kf;obtain⟨w1,ag⟩:∃w1,w1=w.alloc (.cells (bN ⟨0,0,0,0,[]⟩) 90):=⟨_,rfl⟩
 have af:Below w.heap.size w w1:=by rw[ag];exact Below.newly' _ _
 have ai:w1.heap[w.heap.size]? =some (.cells (bN ⟨0,0,0,0,[]⟩) 90 (0,0)):=by rw[ag];exact aC _ _
 have HB1:=iH af;have ew:Hid (w.heap.size<w1.heap.size):=(gZ ai)
 have HX:Hid (∀W,Below w1.heap.size w1 W->W.heap[w.heap.size]? =some (.cells (bN ⟨0,0,0,0,[]⟩) 90 (0,0))):=fun W hb=>kW hb ai
 have HW:Hid (Below w1.heap.size w1 w1):=bB _ _;clear af ai;by_cases hc:u3=0
 ·subst hc
  rw[if_pos rfl]at hQ;subst hQ;go_enter Tryz.func84,Tryz.ntmps84;go_upto_region 1 with fail
  rw[show w.alloc (.cells #[.int .i64 0,.int .i64 0,.int .i64 0,.int .i64 0,.string ⟨#[]⟩] 90)=w1 from ag.symm];clear ag;go_wp2_with (first
   |(go_at_call 124;refine(HU.out _).mono ?_;rintro r V ⟨rfl,rfl⟩)
   |(refine aV rfl 90 _ _ rfl w.heap.size (bN ⟨3,p,k,u1,[]⟩) rfl rfl 90 (bN ⟨0,0,0,0,[]⟩) (HX.out _ HW.out) bR rfl uBw ?_;intro w8 h8 k8))
  exact Ae0
 ·have HF:=iH (fun W=>aCE u3 p W hO hO)
  have CW:(u3==0)=false:=aE.2 hc;rw[if_neg hc]at hQ;subst hQ;clear M4;go_enter Tryz.func84,Tryz.ntmps84;go_upto_region 1 with fail
  rw[show w.alloc (.cells #[.int .i64 0,.int .i64 0,.int .i64 0,.int .i64 0,.string ⟨#[]⟩] 90)=w1 from ag.symm];clear ag;go_wp2_with (first
   |(go_at_call 124;refine(HU.out _).mono ?_;rintro r V ⟨rfl,rfl⟩)
   |(go_at_call 48;have H0:=HW.out.size;refine(HF.out _).mono ?_;rintro r V ⟨E,rfl,he,hb⟩;replace HW:=iH (tW HW.out hb);have sz:=iH he;have HS:=iH H0;clear hb he H0)
   |(refine aV rfl 90 _ _ rfl w.heap.size (bN ⟨0,0,0,0,[]⟩) rfl rfl 90 (bN ⟨0,0,0,0,[]⟩) (HX.out _ HW.out) bR rfl uBw ?_;intro w8 h8 k8))
  exact Ad0
theorem aRv (s:ByteArray) (p k:Nat) (w:World) (hp:p<=k) (hk:k<=s.size) (hs:s.size<=2000000):Calls Tryz.prog 86 #[.string s,.int .i64 (p:Int),.int .i64 (k:Int)] w fun e w'=>e=.returned (.agg (bN ⟨2,p,k,0,(s.extract p k).data.toList⟩))/\Below w.heap.size w w':=by
 have HU:=iH (fun W=>aON (s.extract p k) W (by simp only[nQ];omega));have wt:(p:Int)<=k:=by omega
 have Og:(k:Int)<=s.size:=by omega
 obtain⟨w1,ag⟩:∃w1,w1=w.alloc (.cells (bN ⟨0,0,0,0,[]⟩) 90):=⟨_,rfl⟩
 have af:Below w.heap.size w w1:=by rw[ag];exact Below.newly' _ _
 have ai:w1.heap[w.heap.size]? =some (.cells (bN ⟨0,0,0,0,[]⟩) 90 (0,0)):=by rw[ag];exact aC _ _
 have HB1:=iH af;have ew:Hid (w.heap.size<w1.heap.size):=(gZ ai)
 have HX:Hid (∀W,Below w1.heap.size w1 W->W.heap[w.heap.size]? =some (.cells (bN ⟨0,0,0,0,[]⟩) 90 (0,0))):=fun W hb=>kW hb ai
 have HW:Hid (Below w1.heap.size w1 w1):=bB _ _;clear af ai;go_enter Tryz.func86,Tryz.ntmps86;go_upto_region 1 with fail
 rw[show w.alloc (.cells #[.int .i64 0,.int .i64 0,.int .i64 0,.int .i64 0,.string ⟨#[]⟩] 90)=w1 from ag.symm];clear ag;go_wp2_with (first
  |(go_at_call 125;refine(HU.out _).mono ?_;rintro r V ⟨rfl,hb⟩;replace HW:=iH (tW HW.out hb);clear hb)
  |(refine aV rfl 90 _ _ rfl w.heap.size (bN ⟨2,p,k,0,(s.extract p k).data.toList⟩) rfl rfl 90 (bN ⟨0,0,0,0,[]⟩) (HX.out _ HW.out) bR rfl uBw ?_;intro w8 h8 k8))
 refine aN (bE rfl _ _ w.heap.size 90 _ (0,0) _ rfl h8 Tryz.underlying90 rfl bR) rfl ?_;exact⟨rfl,HB1.out.trans ((HW.out.mono HB1.out.size).trans (k8.below (aA _)))⟩
theorem aRz (s:ByteArray) (p:Nat) (w:World) (hT:Sg w) (hp:p<=s.size) (hs:s.size<=2000000):Calls Tryz.prog 88 #[.string s,.int .i64 (p:Int)] w fun e w'=>∃E,e=.returned (.tuple #[aFq (aLM s.data.toList p).1,E])/\fR w.heap.size w' E (aLM s.data.toList p).2.2 ((aLM s.data.toList p).2.1:Nat)/\Below w.heap.size w w':=by
 obtain⟨Q,hQ⟩:∃Q,Q=aLM s.data.toList p:=⟨_,rfl⟩
 rw[<-hQ];unfold aLM at hQ;have HQ:=iH hQ;have Gp:(s.size:Int)<=2000000:=by omega
 have wt:(p:Int)<=s.size:=by omega
 obtain⟨G,hG⟩:∃G,G=s.extract p s.size:=⟨_,rfl⟩
 have KJ:G.data.toList=s.data.toList.drop p:=by rw[hG];exact aPy s p
 have NK:G.size<=2000000:=by rw[hG];simp only[nQ];omega
 clear hQ;obtain⟨w1,ag⟩:∃w1,w1=w.alloc (.cells (bN ⟨0,0,0,0,[]⟩) 90):=⟨_,rfl⟩
 have af:Below w.heap.size w w1:=by rw[ag];exact Below.newly' _ _
 have ai:w1.heap[w.heap.size]? =some (.cells (bN ⟨0,0,0,0,[]⟩) 90 (0,0)):=by rw[ag];exact aC _ _
 have HB1:=iH af;have ew:Hid (w.heap.size<w1.heap.size):=(gZ ai)
 have HX:Hid (∀W,Below w1.heap.size w1 W->W.heap[w.heap.size]? =some (.cells (bN ⟨0,0,0,0,[]⟩) 90 (0,0))):=fun W hb=>kW hb ai
 have HW:Hid (Below w1.heap.size w1 w1):=bB _ _;clear af ai;obtain⟨tt,fr,hg⟩:=(hT.below HB1.out).heap;have HG:=iH hg;have HF:=iH (fun W=>aCE 2 p W hO hO);clear hT hg;go_enter Tryz.func88,Tryz.ntmps88;go_upto_region 1 with fail
 rw[show w.alloc (.cells #[.int .i64 0,.int .i64 0,.int .i64 0,.int .i64 0,.string ⟨#[]⟩] 90)=w1 from ag.symm];clear ag;go_wp2_with (refine wpList_load_row rfl 201 _ rfl 1 rfl tt _ fr _ HG.out Tryz.underlying201 rfl aQX ?_)
 go_loopw [9] (fun i wr=>∃j:Nat,j<=23/\i=.int .i64 (j:Int)/\(∀t (h:t<gE.length),t<j->gE[t].isPrefixOf (s.data.toList.drop p)=false)/\wr=w1) (fun i _=>23-(intOf i).toNat)
 case atStart=>exact⟨0,by omega,rfl,fun t _ h=>absurd h (Nat.not_lt_zero _),rfl⟩
 case round=>
  obtain⟨j,hj,rfl,DS,rfl⟩:=hrel;have O0:=iH DS;clear DS;by_cases tp:j<23
  case neg=>
   have HE:Hid (Q=(⟨0,0,0,0,[]⟩,p,2)):=by
    have h:=HQ.out;rw[aRS _ _ (fun t ht=>O0.out t ht (by have:gE.length=23:=rfl;omega))]at h;exact h
   have Zb:¬(j:Int)<23:=by omega
   clear HQ O0;go_wp2_with (first
    |(go_at_call 48;have H0:=HW.out.size;refine(HF.out _).mono ?_;rintro r V ⟨E,rfl,he,hb⟩;replace HW:=iH (tW HW.out hb);have sz:=iH he;have HS:=iH H0;clear hb he H0)
    |(refine aV rfl 90 _ _ rfl w.heap.size (bN ⟨0,0,0,0,[]⟩) rfl rfl 90 (bN ⟨0,0,0,0,[]⟩) (HX.out _ HW.out) bR rfl uBw ?_;intro w8 h8 k8))
   exact Aa9
  have Zb:(j:Int)<23:=by omega
  have Wu:j<gE.length:=tp;have KK:=fun W=>sg_ix j tp W
  obtain⟨X,hX⟩:∃X:ByteArray,X=⟨(gE[j]).toArray⟩:=⟨_,rfl⟩
  rw[<-hX]at KK;have Dw:X.data.toList=gE[j]:=by rw[hX]
  have fl:X.size<=2:=by
   have h2:∀y∈gE,y.length<=2:=by decide
   rw[<-cY,Dw];exact h2 _ (aX _)
  have df:=fun W=>lx_hp G X W hO hO
  obtain⟨b,hb⟩:∃b,b=X.data.toList.isPrefixOf G.data.toList:=⟨_,rfl⟩
  rw[<-hb]at df;have KL:(X.size:Int)<=2:=by omega
  rw[hG]at df;rw[KJ]at hb;have ng:=iH df;have tj:=iH hb;have x7:=iH Dw;clear df hb Dw hX;cases b with
  |true=>
   have HE:Hid (Q=(⟨1,p,p+X.size,0,X.data.toList⟩,0,0)):=by
    have h:=HQ.out;rw[aI0 _ _ j Wu (fun t ht KM=>O0.out t ht KM) (by rw[<-x7.out];exact tj.out.symm),<-x7.out]at h;have h2:=h.trans (show _=((⟨1,p,p+X.data.toList.length,0,X.data.toList⟩:Tok),0,0)from rfl);rw[cY]at h2;exact h2
   clear HQ O0 tj x7;go_wp2_with (first
    |(go_at_call 126;refine(ng.out _).mono ?_;rintro r V ⟨rfl,rfl⟩)
    |(refine aV rfl 90 _ _ rfl w.heap.size (bN ⟨1,p,p+X.size,0,X.data.toList⟩) rfl rfl 90 (bN ⟨0,0,0,0,[]⟩) (HX.out _ HW.out) bR rfl uBw ?_;intro w8 h8 k8))
   refine aN (aR rfl _ _ w.heap.size 90 _ (0,0) _ rfl h8 Tryz.underlying90 rfl bR) rfl ?_;exact⟨.nilIface,by rw[HE.out];rfl,by rw[HE.out];exact zR _ _ _,HB1.out.trans ((HW.out.mono HB1.out.size).trans (k8.below (aA _)))⟩
  |false=>
   have HN:Hid (∀t (h:t<gE.length),t<j+1->gE[t].isPrefixOf (s.data.toList.drop p)=false):=fun t ht h1=>by
    rcases eB t j with h2|h2
    ·exact O0.out t ht h2
    ·obtain rfl:t=j:=by omega
     rw[<-x7.out];exact tj.out.symm
   clear HQ O0 tj x7;go_wp2_with (go_at_call 126;refine(ng.out _).mono ?_;rintro r V ⟨rfl,rfl⟩)
   go_roundw
   case rel=>exact⟨j+1,by omega,by go_num,HN.out,trivial⟩
   case measure=>simp[intOf];omega
theorem aMd (k n:Int) (t:ByteArray) (ks:List ByteArray) (xs:List Tr):(Tr.nd k n t ks xs).k=k:=rfl
theorem aKp (k n:Int) (t:ByteArray) (ks:List ByteArray) (xs:List Tr):(Tr.nd k n t ks xs).ks=ks:=rfl
theorem uO (k n:Int) (t:ByteArray) (ks:List ByteArray) (xs:List Tr):(Tr.nd k n t ks xs).xs=xs:=rfl
theorem aJC {α:Type} {l:List α} {j:Nat} (h:j<l.length):l.Perm ([l[j]]++l.eraseIdx j):=by
 rw[aNg];have e:l.take j++l[j]::l.drop (j+1)=l:=by rw[<-lW h,eD]
 conv=>lhs;rw[<-e]
 exact nB
theorem aM4 {a:Tr} {i:Int} {u:ByteArray} {j:Nat} (hj:j<a.xs.length) (h:atT a i u=some j):zB a i u=a.xs[j]:=by
 unfold zB;rw[h];simp[hj]
theorem aIZ {xs:List Tr} {x:Tr} (h:x∈xs):(tal [x]).length<=(tal xs).length:=by
 rw[fM,fM];have:=zV h;simp only[fP];omega
theorem iF.grown {w w':World} {row:Option Nat} (h:iF w) (hg:w.grownBy w' row) (bn:row≠some 4):iF w':=fun j hj=>aAD hg (fun e=>bn e.symm) (h j hj)
theorem aIW (w:World) (a:Tr) (x:Cel) (ha:fQ a) (hv:VAt (fun _=>True) w a x) (hT:iF w):
  Calls Tryz.prog 30 #[.agg (aL x)] w fun r w'=>r=.returned (.string (kB a))/\Below w.heap.size w w':=by
 obtain⟨w1,ag⟩:∃w1,w.alloc (.cells (aL x) 37)=w1:=⟨_,rfl⟩
 obtain⟨af,ai,al⟩:=fH ag;have Cx:VAt (fun g=>g<w.heap.size) w a x:=hv.old.weak fun _ h=>h.2
 have hlt:4<w.heap.size:=aO w _ (hT 0 uAv);have hk:=ha.key;have HA:=iH (aFg a w1 x w.heap.size (.slice none 0 0) [] ha (Cx.low af) (hT.below af) hlt (Buf.nil af.size) uCy);have HX1:=iH ai;have HB1:=iH af;clear ai af al hv Cx hT hlt ha hk;go_enter Tryz.func30,Tryz.ntmps30;go_upto_region 1 with fail
 clear ag;go_wp2_with (first
  |(refine aW rfl 37 _ rfl w.heap.size rfl 37 _ _ _ HX1.out Tryz.underlying37 rfl aF ?_)
  |(go_at_call 56;refine HA.out.mono ?_;rintro r w2 ⟨v2,rfl,Cz,jn⟩;have z8:=Cz.str;have HK:=iH jn;clear jn))
 go_ret;exact⟨rfl,HB1.out.trans HK.out.1⟩
theorem aQu (a:Tr):aGo a:=kD (P:=aGo) (fun k n t ks xs ih=>aNt (.nd k n t ks xs) ih) a
open Go.Shelf
attribute [local go_sem] fS
theorem ld_at {ops:Array Oper} {rest:List Oper} {o:Oper} {a:Act} {w:World} {Q:Exit->Act->World->Prop} (j9:Region.wanted o (yielded ops a.tmps)=true) (T:TypeId) (y:Operand) (ho:o.op=.load T y)
  (b k:Nat) (hx:a.eval y=.pointer (some ⟨b,k,none⟩)) (cs:Array Value) (d:TypeDesc) (hR:w.rangeAt b k cs.toList) (hu:Tryz.prog.underlying T=some d) (hd:d.isRow=true) (hs:(Tryz.prog.info? T).map (·.size)=some cs.size)
  (h:wpList Tryz.prog ops Q rest (a.put o.dst (.agg cs)) w):wpList Tryz.prog ops Q (o::rest) a w:=
 wpList_step fun _ hK=>by
  rw[if_pos j9];exact wp_load_mid T y ho b k hx _ _ hR hu hd (by rw[hs,bM]) (hK _ _ h)
end Go.Proofs.YthmfgidbcghnfaaGreatDoor
