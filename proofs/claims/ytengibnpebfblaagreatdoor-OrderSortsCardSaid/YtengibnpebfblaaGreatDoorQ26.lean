import Derived.Test.YtengibnpebfblaaGreatDoorQ0
import Derived.Test.YtengibnpebfblaaGreatDoorQ24
set_option maxRecDepth 1000000
set_option maxHeartbeats 8000000
set_option linter.unusedSimpArgs false
namespace Go.Proofs.YtengibnpebfblaaGreatDoor
open Go.RowKit
theorem aEk (s:ByteArray) (k:Nat) (hs:s.size<=1000000):(4::nI (s.data.toList.take k)).length<=2000001:=by
 have h:=aAX (s.data.toList.take k);have h2:(s.data.toList.take k).length<=1000000:=by rw[aV,eY];omega
 simp only[aL];omega
theorem aGI (s:ByteArray) (w:World) (hs:s.size<=1000000):
  Calls Tryz.prog 122 #[.string s] w fun e w'=>e=.returned (.string ⟨(4::(nI s.data.toList++[0,0])).toArray⟩)/\Below w.heap.size w w':=by
 go_enter Tryz.func122,Tryz.ntmps122;go_wp2_with (first
  |(refine aLJ rfl _ _ rfl _ _ _ (s.size+3) rfl rfl uAu uAu (aE w.heap.size) ?_;intro v0 w0 hb0 hl0;have HB0:=iH hb0;have HL0:=iH hl0;clear hb0 hl0)
  |(at_builtin;go_loud (refine lO rfl (.tmp 10) (.tmp 11) rfl rfl HB0.out [4] _ rfl 1 1 rfl rfl uAv ?_);intro v1 w1 hb1 hl1;have HB1:=iH hb1;have HL1:=iH hl1;clear hb1 hl1))
 go_loopw [3,15] (fun v i wr=>∃k:Nat,k<=s.size/\i=.int .i64 k/\Buf w.heap.size v (4::nI (s.data.toList.take k)) wr/\Below w.heap.size w wr) (fun _ i _=>s.size-(intOf i).toNat)
 case atStart=>exact⟨0,aQ _,rfl,HB1.out,HL0.out.trans HL1.out⟩
 case round=>
  obtain⟨k,hk,rfl,hbuf,hbw⟩:=hrel;have HB:=iH hbuf;have HW:=iH hbw;have HLEN:=iH (aEk s k hs);clear hbuf hbw HB0 HL0 HB1 HL1;by_cases hlt:k<s.size
  ·have HF:=iH (aG4 s k hlt)
   by_cases h0:s[k]=0
   ·have h0':(s[k].toNat:Int)=0:=by rw[h0];rfl
    rw[h0]at HF;clear h0;go_wp2_with (first
     |(at_builtin;go_loud (refine lO rfl (.tmp 24) (.tmp 25) rfl rfl HB.out [0] _ rfl 1 1 rfl rfl (by have:=HLEN.out;have h1:[(0:UInt8)].length=1:=rfl;omega) ?_);intro v2 w2 hb2 hl2;have HB2:=iH hb2;have HL2:=iH hl2;clear hb2 hl2)
     |(at_builtin;go_loud (refine lO rfl (.tmp 27) (.tmp 29) rfl rfl HB2.out [255] _ rfl 1 1 rfl rfl (by have:=HLEN.out;have h1:[(255:UInt8)].length=1:=rfl;rw[aD];have h2:[(0:UInt8)].length=1:=rfl;omega) ?_);intro v3 w3 hb3 hl3;have HB3:=iH hb3;have HL3:=iH hl3;clear hb3 hl3))
    go_roundw
    case rel=>
     refine⟨k+1,by omega,by go_num,?_,(HW.out.trans HL2.out).trans HL3.out⟩;have h:=HB3.out;rw[bN]at h;rw[HF.out];exact h
    case measure=>simp[intOf];omega
   ·have h0':¬(s[k].toNat:Int)=0:=fun e=>h0 (uE.1 (by simpa using e))
    have HC:Hid (rR s[k]=[s[k]]):=by show _=_;simp[rR,h0]
    clear h0;go_wp2_with (at_builtin;go_loud (refine lO rfl (.tmp 27) (.tmp 29) rfl rfl HB.out [s[k]] _ rfl 1 1 rfl rfl (by have:=HLEN.out;have h1:[s[k]].length=1:=rfl;omega) ?_);intro v2 w2 hb2 hl2;have HB2:=iH hb2;have HL2:=iH hl2;clear hb2 hl2)
    go_roundw
    case rel=>
     refine⟨k+1,by omega,by go_num,?_,HW.out.trans HL2.out⟩;have h:=HB2.out;rw[HF.out,HC.out];exact h
    case measure=>simp[intOf];omega
  ·have HF:Hid (nI (s.data.toList.take k)=nI s.data.toList):=by show _=_;rw[aZ uGv]
   go_wp2_with (at_builtin;go_loud (refine lO rfl (.tmp 32) (.tmp 33) rfl rfl HB.out [0,0] _ rfl 2 2 rfl rfl (by have:=HLEN.out;have h1:[(0:UInt8),0].length=2:=rfl;omega) ?_);intro v2 w2 hb2 hl2;have hcv:=hb2.str;have HL2:=iH hl2;clear hb2 hl2)
   go_ret;exact⟨by rw[<-HF.out];rfl,HW.out.trans HL2.out⟩
theorem aIU {W w1:World} (hb:Below W.heap.size W w1) (b o:Nat) (h:b<W.heap.size):w1.cell? ⟨b,o,none⟩=W.cell? ⟨b,o,none⟩:=hb.cell (p:=⟨b,o,none⟩) h
theorem aE6 (l:List UInt8) (cs:Array Value) (hc:cs.toList=bv l) (hl:l.length<=4096) (W:World):
  (convert 129 9 (.slice (some ⟨W.heap.size,0,none⟩) l.length l.length)).run Tryz.prog (W.alloc (.cells cs 5))=.ok (.string ⟨l.toArray⟩) (W.alloc (.cells cs 5)):=
 (Buf.lit (B:=W.heap.size) (aE _) cs l hc hl).str
theorem aKh (k n:Int) (t:ByteArray) (w:World) (hn:InR n) (ht:t.size<=1000000):
  Calls Tryz.prog 101 #[scV k n t] w fun e w'=>e=.returned (.string ⟨(kX (scT k n t)).toArray⟩)/\Below w.heap.size w w':=by
 have hb0:Below w.heap.size w (w.alloc (.cells #[.int .i64 k,.int .i64 n,.string t] 32)):=Below.newly' w _;have HN:=iH hb0;have HC:=iH (fun W=>aF7 k n t W);have HV:=iH (fun W=>aGI t W ht);have HB:=iH (fun W=>aIZ n W hn);clear hn hb0 ht;by_cases hc:fH (scT k n t)=0
 ·have key:∀(W:World),Below (w.alloc (.cells #[.int .i64 k,.int .i64 n,.string t] 32)).heap.size (w.alloc (.cells #[.int .i64 k,.int .i64 n,.string t] 32)) W->
    W.cell? ⟨w.heap.size,0,none⟩=some (.int .i64 k)/\W.cell? ⟨w.heap.size,1,none⟩=some (.int .i64 n)/\W.cell? ⟨w.heap.size,2,none⟩=some (.string t)/\Below w.heap.size w W:=fun W h=>
   ⟨(h.cell (p:=⟨w.heap.size,0,none⟩) uBu).trans uBu,(h.cell (p:=⟨w.heap.size,1,none⟩) uBu).trans uBu,(h.cell (p:=⟨w.heap.size,2,none⟩) uBu).trans uBu,tW HN.out h⟩
  have KEY:=iH key;clear key;rcases sN _ hc with h|h|h|⟨m,h⟩|⟨u,h⟩
  ·simp only[jJ]at h
   obtain⟨rfl,rfl,h3⟩:=h;have H3:Hid (scT 0 0 t=(0,0,[])):=bH (fun l=>((0:Int),(0:Int),l)) h3;rw[H3.out]at HC ⊢;clear h3 hc H3;have hcv:=aE6 [1] #[.int .u8 1] rfl uAv;simp only[aL,bG]at hcv;go_enter Tryz.func101,Tryz.ntmps101;go_wp2_with fail
   refine(HC.out _).mono ?_;rintro e w1 ⟨rfl,hb⟩;obtain⟨c0,c1,c2,hb1⟩:=KEY.out _ hb;have H1:=iH hb1;clear hb hb1;rw[aG8];go_wp2_with fail
   go_ret;exact⟨by rw[uU];rfl,Below.more H1.out _⟩
  ·simp only[jJ]at h
   obtain⟨rfl,rfl,h3⟩:=h;have H3:Hid (scT 1 0 t=(1,0,[])):=bH (fun l=>((1:Int),(0:Int),l)) h3;rw[H3.out]at HC ⊢;clear h3 hc H3;have hcv:=aE6 [2,0] #[.int .u8 2,.int .u8 0] rfl uAv;simp only[aL,bG]at hcv;go_enter Tryz.func101,Tryz.ntmps101;go_wp2_with fail
   refine(HC.out _).mono ?_;rintro e w1 ⟨rfl,hb⟩;obtain⟨c0,c1,c2,hb1⟩:=KEY.out _ hb;have H1:=iH hb1;clear hb hb1;rw[aDo];go_wp2_with fail
   go_ret;exact⟨by rw[sE];rfl,Below.more H1.out _⟩
  ·simp only[jJ]at h
   obtain⟨rfl,rfl,h3⟩:=h;have H3:Hid (scT 1 1 t=(1,1,[])):=bH (fun l=>((1:Int),(1:Int),l)) h3;rw[H3.out]at HC ⊢;clear h3 hc H3;have hcv:=aE6 [2,1] #[.int .u8 2,.int .u8 1] rfl uAv;simp only[aL,bG]at hcv;go_enter Tryz.func101,Tryz.ntmps101;go_wp2_with fail
   refine(HC.out _).mono ?_;rintro e w1 ⟨rfl,hb⟩;obtain⟨c0,c1,c2,hb1⟩:=KEY.out _ hb;have H1:=iH hb1;clear hb hb1;rw[aG7];go_wp2_with fail
   go_ret;exact⟨by rw[uT];rfl,Below.more H1.out _⟩
  ·simp only[jJ]at h
   obtain⟨rfl,rfl,h3⟩:=h;have H3:Hid (scT 2 n t=(2,n,[])):=bH (fun l=>((2:Int),(n:Int),l)) h3;rw[H3.out]at HC ⊢;clear h3 hc H3;have hcv:=vV;have hca:∀(w:World) (a:Addr),cv1 w a (some (.int .u8 3))=.ok (.string ⟨#[3]⟩) w:=fun w a=>aA8 w a 3 uAv uAv
   have hl:(lN n).length=8:=qN n;go_enter Tryz.func101,Tryz.ntmps101;go_wp2_with fail
   refine(HC.out _).mono ?_;rintro e w1 ⟨rfl,hb⟩;obtain⟨c0,c1,c2,hb1⟩:=KEY.out _ hb;have H1:=iH hb1;have hsz:w.heap.size<w1.heap.size:=by have:=hb.size;simp at this;omega
   clear hb hb1;rw[aAY];go_wp2_with fail
   go_region_with (go_at_call 121;refine(HB.out _).mono ?_;rintro e w' ⟨rfl,hb⟩;have hbc:=aIU hb;have HB2:=iH hb;clear hb)
   all_goals go_wp2_with fail
   all_goals go_ret
   all_goals refine⟨by rw[yX,show(3::lN n)=[3]++lN n from rfl,<-qL];rfl,?_⟩
   all_goals first
    |exact Below.chain H1.out (Below.chain (Below.laid _ _) (Below.chain (Below.drawn _) HB2.out))
    |exact Below.chain H1.out (Below.chain (Below.drawn _) (Below.chain (Below.laid _ _) HB2.out))
    |exact Below.chain H1.out (Below.chain (Below.drawn _) (Below.chain HB2.out (Below.laid _ _)))
  ·simp only[jJ]at h
   obtain⟨rfl,rfl,h3⟩:=h;have HK:Hid (fH (scT 3 0 t)=0):=hc;clear h3 hc;go_enter Tryz.func101,Tryz.ntmps101;go_wp2_with fail
   refine(HC.out _).mono ?_;rintro e w1 ⟨rfl,hb⟩;obtain⟨c0,c1,c2,hb1⟩:=KEY.out _ hb;have H1:=iH hb1;clear hb hb1;rw[HK.out];go_wp2_with fail
   refine(HV.out _).mono ?_;rintro e w2 ⟨rfl,hb⟩;have H2:=iH (tW H1.out hb);clear hb;go_wp2_with fail
   go_ret;exact⟨by rw[sD];rfl,H2.out⟩
 ·have HK:=iH (aEa _ hc)
  obtain⟨c,hcc⟩:∃c,fH (scT k n t)=c:=⟨_,rfl⟩
  rw[hcc]at HC hc;have hcb:(c !=0)=true:=by simp[hc]
  clear hcc hc;go_enter Tryz.func101,Tryz.ntmps101;exact Af7
theorem pU:(Tryz.prog.info? 67).map (·.size)=some 3:=by kernel_rfl
theorem aJx (k s:Int):qO k s=xQ k s:=by
 unfold qO xQ;by_cases h0:s=0
 ·subst h0;simp
 by_cases h1:s=1
 ·subst h1;simp
 by_cases h2:s=2
 ·subst h2;simp
 simp[h0,h1,h2]
theorem aO5 (k s:Int):xQ k s=0\/xQ k s=1\/xQ k s=3:=by
 unfold xQ
 repeat' split
 all_goals omega
theorem aLp {a:Tr} {s i:Int} {u:ByteArray} (h:xQ a.k s=0):aJo a s i u=(aBu a i u,if(atT a i u).isSome then 0 else 5):=by
 unfold aJo aBu;rw[if_neg uDw];cases atT a i u<;>rfl
theorem aJn {a:Tr} {s i:Int} {u:ByteArray} (h:xQ a.k s≠0):aJo a s i u=(iE,xQ a.k s):=by
 unfold aJo;rw[if_pos h]
theorem va_Get {S:Nat->Prop} (w:World) (a:Tr) (x:Cel) (ha:dW a) (hv:VAt S w a x) (s i:Int) (u:ByteArray) (hu:u.size<=9223372036854775800):
  Calls Tryz.prog 34 #[.agg (aX x),.agg #[.int .i64 s,.int .i64 i,.string u]] w fun r w'=>∃y,r=.returned (.tuple #[.agg (aX y),.int .i64 (aJo a s i u).2])/\VAt S w' (aJo a s i u).1 y/\Below w.heap.size w w':=by
 obtain⟨w1,hw1⟩:∃w1,((w.alloc (.cells (aX x) 35)).alloc (.cells #[.int .i64 s,.int .i64 i,.string u] 67)).alloc (.cells #[.int .i64 0,.int .i64 0,.string ⟨#[]⟩,.pointer none] 35)=w1:=⟨_,rfl⟩
 obtain⟨hb1,hx1,hs1',hy1,hz1⟩:=lI hw1;have HX1:=iH hx1;have HT1:=iH hs1';have HY1:=iH hy1;have HB1:=iH hb1;have HS1:=iH hz1;have HBE:=iH (aJO w1 x s i u);rw[hv.k,aJx]at HBE;by_cases hf:xQ a.k s=0
 ·have h4:4<=a.k:=by rcases zE hf with⟨_,h⟩|⟨_,h⟩|⟨_,h⟩<;>omega
  obtain⟨b,l,hp,_⟩:=hv.parts h4;have HAT:=iH (fun W (hb:Below w.heap.size w W)=>va_at W a x b ha (hv.old.later hb) hp s i u hf hu);have HPX:Hid ((aX x)[3]? =some (.pointer (some ⟨b,0,none⟩))):=by show _=_;rw[<-hp];rfl
  rw[aLp hf];rw[hf]at HBE;cases e:atT a i u with
  |none=>
   have hn:aBu a i u=iE:=by unfold aBu;rw[e]
   rw[e,hn]at HAT;rw[hn];clear hx1 hs1' hy1 hz1 hb1 hf h4 hp hv ha e hu hn;go_enter Tryz.func34,Tryz.ntmps34;go_upto_region 1 with fail
   clear hw1;go_upto_region 4 with(first
    |(refine bR rfl 35 _ rfl w.heap.size rfl 35 _ _ _ HX1.out Tryz.underlying35 rfl aR ?_)
    |(refine bR rfl 67 _ rfl (w.heap.size+1) rfl 67 _ _ _ HT1.out Tryz.underlying67 rfl pU ?_)
    |(go_at_call 63;refine HBE.out.mono ?_;rintro r w2 ⟨rfl,hb2⟩;have HB2:=iH (tW HB1.out hb2);have HX2:=iH (kW hb2 HX1.out);have HT2:=iH (kW hb2 HT1.out);have HY2:=iH (kW hb2 HY1.out);clear hb2))
   have cp:w2.cell? ⟨w.heap.size,3,none⟩=some (.pointer (some ⟨b,0,none⟩)):=aK HX2.out HPX.out;clear HBE HX1 HT1 HY1;go_wp2_with (first
    |(refine bR rfl 67 _ rfl (w.heap.size+1) rfl 67 _ _ _ HT2.out Tryz.underlying67 rfl pU ?_)
    |(go_at_call 64;refine(HAT.out _ HB2.out).mono ?_;rintro r w3 ⟨y,rfl,hy,hb3⟩;have HB3:=iH (tW HB2.out hb3);have HY3:=iH (kW hb3 HY2.out);have HL3:Hid (w.heap.size+3<=w3.heap.size):=(by have h1:=(gZ HY3.out);show _<=_;omega);clear hb3 hy)
    |(refine bV rfl 35 _ _ rfl w3.heap.size (aX y) rfl rfl 35 _ (aF _ _) aR rfl (eU y) ?_;intro w4 h4 k4;have HB4:=iH ((HB3.out.trans ((Below.newly' w3 _).mono HB3.out.size)).trans (k4.below HB3.out.size));have HY4:=iH (k4.other (((Below.newly' w3 _).block _ (gZ HY3.out)).trans HY3.out) (by have:=HL3.out;omega));clear h4 k4)
    |(refine bV rfl 35 _ _ rfl (w.heap.size+2) #[.int .i64 0,.int .i64 0,.string ⟨#[]⟩,.pointer none] rfl rfl 35 _ HY4.out aR rfl uAy ?_;intro w5 h5 k5))
   exact bF (bU rfl _ _ (w.heap.size+2) 35 _ (0,0) _ rfl h5 Tryz.underlying35 rfl aR) rfl ⟨gT,rfl,mI _ _,HB4.out.trans (k5.below uAu)⟩
  |some j=>
   rw[e]at HAT;clear hx1 hs1' hy1 hz1 hb1 hf h4 hp hv ha e hu;go_enter Tryz.func34,Tryz.ntmps34;go_upto_region 1 with fail
   clear hw1;go_upto_region 4 with(first
    |(refine bR rfl 35 _ rfl w.heap.size rfl 35 _ _ _ HX1.out Tryz.underlying35 rfl aR ?_)
    |(refine bR rfl 67 _ rfl (w.heap.size+1) rfl 67 _ _ _ HT1.out Tryz.underlying67 rfl pU ?_)
    |(go_at_call 63;refine HBE.out.mono ?_;rintro r w2 ⟨rfl,hb2⟩;have HB2:=iH (tW HB1.out hb2);have HX2:=iH (kW hb2 HX1.out);have HT2:=iH (kW hb2 HT1.out);have HY2:=iH (kW hb2 HY1.out);clear hb2))
   have cp:w2.cell? ⟨w.heap.size,3,none⟩=some (.pointer (some ⟨b,0,none⟩)):=aK HX2.out HPX.out;clear HBE HX1 HT1 HY1;go_wp2_with (first
    |(refine bR rfl 67 _ rfl (w.heap.size+1) rfl 67 _ _ _ HT2.out Tryz.underlying67 rfl pU ?_)
    |(go_at_call 64;refine(HAT.out _ HB2.out).mono ?_;rintro r w3 ⟨y,rfl,hy,hb3⟩;have HV3:=iH hy;have HB3:=iH (tW HB2.out hb3);have HY3:=iH (kW hb3 HY2.out);have HL3:Hid (w.heap.size+3<=w3.heap.size):=(by have h1:=(gZ HY3.out);show _<=_;omega);clear hb3 hy)
    |(refine bV rfl 35 _ _ rfl w3.heap.size (aX y) rfl rfl 35 _ (aF _ _) aR rfl (eU y) ?_;intro w4 h4 k4;have HB4:=iH ((HB3.out.trans ((Below.newly' w3 _).mono HB3.out.size)).trans (k4.below HB3.out.size));have HV4:=iH h4;have HQ4:=iH (((Below.newly' w3 _).mono HB3.out.size).trans (k4.below HB3.out.size));have HY4:=iH (k4.other (((Below.newly' w3 _).block _ (gZ HY3.out)).trans HY3.out) (by have:=HL3.out;omega));clear h4 k4)
    |(refine bR rfl 35 _ rfl w3.heap.size rfl 35 _ _ _ HV4.out Tryz.underlying35 rfl aR ?_)
    |(refine bV rfl 35 _ _ rfl (w.heap.size+2) (aX y) rfl rfl 35 _ HY4.out aR rfl (eU y) ?_;intro w5 h5 k5))
   have hl:=(gZ HY4.out)
   exact bF (bU rfl _ _ (w.heap.size+2) 35 _ (0,0) _ rfl h5 Tryz.underlying35 rfl aR) rfl ⟨y,rfl,(HV3.out.kq (Kq.low (HQ4.out.trans (k5.below uAu)) fun _ h=>h.2)).weak fun _ h=>h.1,HB4.out.trans (k5.below uAu)⟩
 ·rw[aJn hf]
  rcases aO5 a.k s with e|e|e
  ·exact absurd e hf
  all_goals
   rw[e]at HBE ⊢;clear hx1 hs1' hy1 hz1 hb1 hf hv ha e hu;go_enter Tryz.func34,Tryz.ntmps34;go_upto_region 1 with fail
   clear hw1;go_wp2_with (first
    |(refine bR rfl 35 _ rfl w.heap.size rfl 35 _ _ _ HX1.out Tryz.underlying35 rfl aR ?_)
    |(refine bR rfl 67 _ rfl (w.heap.size+1) rfl 67 _ _ _ HT1.out Tryz.underlying67 rfl pU ?_)
    |(go_at_call 63;refine HBE.out.mono ?_;rintro r w2 ⟨rfl,hb2⟩;have HB2:=iH (tW HB1.out hb2);have HX2:=iH (kW hb2 HX1.out);have HT2:=iH (kW hb2 HT1.out);have HY2:=iH (kW hb2 HY1.out);clear hb2)
    |(refine bV rfl 35 _ _ rfl (w.heap.size+2) #[.int .i64 0,.int .i64 0,.string ⟨#[]⟩,.pointer none] rfl rfl 35 _ HY2.out aR rfl uAy ?_;intro w5 h5 k5))
   exact bF (bU rfl _ _ (w.heap.size+2) 35 _ (0,0) _ rfl h5 Tryz.underlying35 rfl aR) rfl ⟨gT,rfl,mI _ _,HB2.out.trans (k5.below uAu)⟩
end Go.Proofs.YtengibnpebfblaaGreatDoor
