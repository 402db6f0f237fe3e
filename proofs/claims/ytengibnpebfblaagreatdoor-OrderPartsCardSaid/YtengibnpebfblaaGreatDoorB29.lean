import Derived.Test.YtengibnpebfblaaGreatDoorB26
set_option maxRecDepth 1000000
set_option maxHeartbeats 8000000
set_option linter.unusedSimpArgs false
namespace Go.Proofs.YtengibnpebfblaaGreatDoor
open Go.RowKit
theorem cov_take_len (s:ByteArray) (k:Nat) (hs:s.size<=1000000):(4::covS (s.data.toList.take k)).length<=2000001:=by
 have h:=cov_len (s.data.toList.take k);have h2:(s.data.toList.take k).length<=1000000:=by rw[List.length_take,len_bytes];omega
 simp only[List.length_cons];omega
theorem sc_textKey (s:ByteArray) (w:World) (hs:s.size<=1000000):
  Calls Tryz.prog 122 #[.string s] w fun e w'=>e=.returned (.string ⟨(4::(covS s.data.toList++[0,0])).toArray⟩)/\Below w.heap.size w w':=by
 go_enter Tryz.func122,Tryz.ntmps122;go_wp2_with (first
  |(refine buf_make rfl _ _ rfl _ _ _ (s.size+3) rfl rfl (by omega) (by omega) (Nat.le_refl w.heap.size) ?_;intro v0 w0 hb0 hl0;have HB0:=iH hb0;have HL0:=iH hl0;clear hb0 hl0)
  |(at_builtin;go_loud (refine buf_append_new rfl (.tmp 10) (.tmp 11) rfl rfl HB0.out [4] _ rfl 1 1 rfl rfl (by decide) ?_);intro v1 w1 hb1 hl1;have HB1:=iH hb1;have HL1:=iH hl1;clear hb1 hl1))
 go_loopw [3,15] (fun v i wr=>∃k:Nat,k<=s.size/\i=.int .i64 k/\Buf w.heap.size v (4::covS (s.data.toList.take k)) wr/\Below w.heap.size w wr) (fun _ i _=>s.size-(intOf i).toNat)
 case atStart=>exact⟨0,Nat.zero_le _,rfl,HB1.out,HL0.out.trans HL1.out⟩
 case round=>
  obtain⟨k,hk,rfl,hbuf,hbw⟩:=hrel;have HB:=iH hbuf;have HW:=iH hbw;have HLEN:=iH (cov_take_len s k hs);clear hbuf hbw HB0 HL0 HB1 HL1;by_cases hlt:k<s.size
  ·have HF:=iH (cov_take s k hlt)
   by_cases h0:s[k]=0
   ·have h0':(s[k].toNat:Int)=0:=by rw[h0];rfl
    rw[h0]at HF;clear h0;go_wp2_with (first
     |(at_builtin;go_loud (refine buf_append_new rfl (.tmp 24) (.tmp 25) rfl rfl HB.out [0] _ rfl 1 1 rfl rfl (by have:=HLEN.out;have h1:[(0:UInt8)].length=1:=rfl;omega) ?_);intro v2 w2 hb2 hl2;have HB2:=iH hb2;have HL2:=iH hl2;clear hb2 hl2)
     |(at_builtin;go_loud (refine buf_append_new rfl (.tmp 27) (.tmp 29) rfl rfl HB2.out [255] _ rfl 1 1 rfl rfl (by have:=HLEN.out;have h1:[(255:UInt8)].length=1:=rfl;rw[List.length_append];have h2:[(0:UInt8)].length=1:=rfl;omega) ?_);intro v3 w3 hb3 hl3;have HB3:=iH hb3;have HL3:=iH hl3;clear hb3 hl3))
    go_roundw
    case rel=>
     refine⟨k+1,by omega,by go_num,?_,(HW.out.trans HL2.out).trans HL3.out⟩;have h:=HB3.out;rw[List.append_assoc]at h;rw[HF.out];exact h
    case measure=>simp[intOf];omega
   ·have h0':¬(s[k].toNat:Int)=0:=fun e=>h0 (UInt8.toNat_inj.1 (by simpa using e))
    have HC:Hid (covOne s[k]=[s[k]]):=by show _=_;simp[covOne,h0]
    clear h0;go_wp2_with (at_builtin;go_loud (refine buf_append_new rfl (.tmp 27) (.tmp 29) rfl rfl HB.out [s[k]] _ rfl 1 1 rfl rfl (by have:=HLEN.out;have h1:[s[k]].length=1:=rfl;omega) ?_);intro v2 w2 hb2 hl2;have HB2:=iH hb2;have HL2:=iH hl2;clear hb2 hl2)
    go_roundw
    case rel=>
     refine⟨k+1,by omega,by go_num,?_,HW.out.trans HL2.out⟩;have h:=HB2.out;rw[HF.out,HC.out];exact h
    case measure=>simp[intOf];omega
  ·have HF:Hid (covS (s.data.toList.take k)=covS s.data.toList):=by show _=_;rw[List.take_of_length_le (by rw[len_bytes];omega)]
   go_wp2_with (at_builtin;go_loud (refine buf_append_new rfl (.tmp 32) (.tmp 33) rfl rfl HB.out [0,0] _ rfl 2 2 rfl rfl (by have:=HLEN.out;have h1:[(0:UInt8),0].length=2:=rfl;omega) ?_);intro v2 w2 hb2 hl2;have hcv:=hb2.str;have HL2:=iH hl2;clear hb2 hl2)
   go_ret;exact⟨by rw[<-HF.out];rfl,HW.out.trans HL2.out⟩
theorem old_cell5 {W w1:World} (hb:Below W.heap.size W w1) (b o:Nat) (h:b<W.heap.size):w1.cell? ⟨b,o,none⟩=W.cell? ⟨b,o,none⟩:=hb.cell (p:=⟨b,o,none⟩) h
theorem lit_str (l:List UInt8) (cs:Array Value) (hc:cs.toList=bv l) (hl:l.length<=4096) (W:World):
  (convert 129 9 (.slice (some ⟨W.heap.size,0,none⟩) l.length l.length)).run Tryz.prog (W.alloc (.cells cs 5))=.ok (.string ⟨l.toArray⟩) (W.alloc (.cells cs 5)):=
 (Buf.lit (B:=W.heap.size) (Nat.le_refl _) cs l hc hl).str
theorem sc_Key (k n:Int) (t:ByteArray) (w:World) (hn:InR n) (ht:t.size<=1000000):
  Calls Tryz.prog 101 #[scV k n t] w fun e w'=>e=.returned (.string ⟨(keySc (scT k n t)).toArray⟩)/\Below w.heap.size w w':=by
 have hb0:Below w.heap.size w (w.alloc (.cells #[.int .i64 k,.int .i64 n,.string t] 32)):=Below.newly' w _;have HN:=iH hb0;have HC:=iH (fun W=>sc_Check k n t W);have HV:=iH (fun W=>sc_textKey t W ht);have HB:=iH (fun W=>num_Bytes n W hn);clear hn hb0 ht;by_cases hc:chkSc (scT k n t)=0
 ·have key:∀(W:World),Below (w.alloc (.cells #[.int .i64 k,.int .i64 n,.string t] 32)).heap.size (w.alloc (.cells #[.int .i64 k,.int .i64 n,.string t] 32)) W->
    W.cell? ⟨w.heap.size,0,none⟩=some (.int .i64 k)/\W.cell? ⟨w.heap.size,1,none⟩=some (.int .i64 n)/\W.cell? ⟨w.heap.size,2,none⟩=some (.string t)/\Below w.heap.size w W:=fun W h=>
   ⟨(h.cell (p:=⟨w.heap.size,0,none⟩) (by simp)).trans (by simp),(h.cell (p:=⟨w.heap.size,1,none⟩) (by simp)).trans (by simp),(h.cell (p:=⟨w.heap.size,2,none⟩) (by simp)).trans (by simp),tW HN.out h⟩
  have KEY:=iH key;clear key;rcases chk_cases _ hc with h|h|h|⟨m,h⟩|⟨u,h⟩
  ·simp only[Prod.mk.injEq]at h
   obtain⟨rfl,rfl,h3⟩:=h;have H3:Hid (scT 0 0 t=(0,0,[])):=congrArg (fun l=>((0:Int),(0:Int),l)) h3;rw[H3.out]at HC ⊢;clear h3 hc H3;have hcv:=lit_str [1] #[.int .u8 1] rfl (by decide);simp only[List.length_cons,List.length_nil]at hcv;go_enter Tryz.func101,Tryz.ntmps101;go_wp2_with fail
   refine(HC.out _).mono ?_;rintro e w1 ⟨rfl,hb⟩;obtain⟨c0,c1,c2,hb1⟩:=KEY.out _ hb;have H1:=iH hb1;clear hb hb1;rw[chk_null];go_wp2_with fail
   go_ret;exact⟨by rw[key_null];rfl,Below.more H1.out _⟩
  ·simp only[Prod.mk.injEq]at h
   obtain⟨rfl,rfl,h3⟩:=h;have H3:Hid (scT 1 0 t=(1,0,[])):=congrArg (fun l=>((1:Int),(0:Int),l)) h3;rw[H3.out]at HC ⊢;clear h3 hc H3;have hcv:=lit_str [2,0] #[.int .u8 2,.int .u8 0] rfl (by decide);simp only[List.length_cons,List.length_nil]at hcv;go_enter Tryz.func101,Tryz.ntmps101;go_wp2_with fail
   refine(HC.out _).mono ?_;rintro e w1 ⟨rfl,hb⟩;obtain⟨c0,c1,c2,hb1⟩:=KEY.out _ hb;have H1:=iH hb1;clear hb hb1;rw[chk_false];go_wp2_with fail
   go_ret;exact⟨by rw[key_false];rfl,Below.more H1.out _⟩
  ·simp only[Prod.mk.injEq]at h
   obtain⟨rfl,rfl,h3⟩:=h;have H3:Hid (scT 1 1 t=(1,1,[])):=congrArg (fun l=>((1:Int),(1:Int),l)) h3;rw[H3.out]at HC ⊢;clear h3 hc H3;have hcv:=lit_str [2,1] #[.int .u8 2,.int .u8 1] rfl (by decide);simp only[List.length_cons,List.length_nil]at hcv;go_enter Tryz.func101,Tryz.ntmps101;go_wp2_with fail
   refine(HC.out _).mono ?_;rintro e w1 ⟨rfl,hb⟩;obtain⟨c0,c1,c2,hb1⟩:=KEY.out _ hb;have H1:=iH hb1;clear hb hb1;rw[chk_true];go_wp2_with fail
   go_ret;exact⟨by rw[key_true];rfl,Below.more H1.out _⟩
  ·simp only[Prod.mk.injEq]at h
   obtain⟨rfl,rfl,h3⟩:=h;have H3:Hid (scT 2 n t=(2,n,[])):=congrArg (fun l=>((2:Int),(n:Int),l)) h3;rw[H3.out]at HC ⊢;clear h3 hc H3;have hcv:=cv1_run;have hca:∀(w:World) (a:Addr),cv1 w a (some (.int .u8 3))=.ok (.string ⟨#[3]⟩) w:=fun w a=>cv1_at w a 3 (by decide) (by decide)
   have hl:(bytesS n).length=8:=bytesS_len n;go_enter Tryz.func101,Tryz.ntmps101;go_wp2_with fail
   refine(HC.out _).mono ?_;rintro e w1 ⟨rfl,hb⟩;obtain⟨c0,c1,c2,hb1⟩:=KEY.out _ hb;have H1:=iH hb1;have hsz:w.heap.size<w1.heap.size:=by have:=hb.size;simp at this;omega
   clear hb hb1;rw[chk_int];go_wp2_with fail
   go_region_with (go_at_call 121;refine(HB.out _).mono ?_;rintro e w' ⟨rfl,hb⟩;have hbc:=old_cell5 hb;have HB2:=iH hb;clear hb)
   all_goals go_wp2_with fail
   all_goals go_ret
   all_goals refine⟨by rw[key_int,show(3::bytesS n)=[3]++bytesS n from rfl,<-cat_mk];rfl,?_⟩
   all_goals first
    |exact Below.chain H1.out (Below.chain (Below.laid _ _) (Below.chain (Below.drawn _) HB2.out))
    |exact Below.chain H1.out (Below.chain (Below.drawn _) (Below.chain (Below.laid _ _) HB2.out))
    |exact Below.chain H1.out (Below.chain (Below.drawn _) (Below.chain HB2.out (Below.laid _ _)))
  ·simp only[Prod.mk.injEq]at h
   obtain⟨rfl,rfl,h3⟩:=h;have HK:Hid (chkSc (scT 3 0 t)=0):=hc;clear h3 hc;go_enter Tryz.func101,Tryz.ntmps101;go_wp2_with fail
   refine(HC.out _).mono ?_;rintro e w1 ⟨rfl,hb⟩;obtain⟨c0,c1,c2,hb1⟩:=KEY.out _ hb;have H1:=iH hb1;clear hb hb1;rw[HK.out];go_wp2_with fail
   refine(HV.out _).mono ?_;rintro e w2 ⟨rfl,hb⟩;have H2:=iH (tW H1.out hb);clear hb;go_wp2_with fail
   go_ret;exact⟨by rw[key_text];rfl,H2.out⟩
 ·have HK:=iH (key_bad _ hc)
  obtain⟨c,hcc⟩:∃c,chkSc (scT k n t)=c:=⟨_,rfl⟩
  rw[hcc]at HC hc;have hcb:(c !=0)=true:=by simp[hc]
  clear hcc hc;go_enter Tryz.func101,Tryz.ntmps101;go_wp2_with fail
  refine(HC.out _).mono ?_;rintro e w1 ⟨rfl,hb⟩;have H1:=iH (tW HN.out hb);clear hb;go_wp2_with fail
  go_ret;exact⟨by rw[HK.out];rfl,H1.out⟩
theorem step_size:(Tryz.prog.info? 67).map (·.size)=some 3:=by kernel_rfl
theorem bears_fit (k s:Int):bearsE k s=fitT k s:=by
 unfold bearsE fitT;by_cases h0:s=0
 ·subst h0;simp
 by_cases h1:s=1
 ·subst h1;simp
 by_cases h2:s=2
 ·subst h2;simp
 simp[h0,h1,h2]
theorem fit_in (k s:Int):fitT k s=0\/fitT k s=1\/fitT k s=3:=by
 unfold fitT
 repeat' split
 all_goals omega
theorem get_part {a:Tr} {s i:Int} {u:ByteArray} (h:fitT a.k s=0):getT a s i u=(partT a i u,if(atT a i u).isSome then 0 else 5):=by
 unfold getT partT;rw[if_neg (by simpa using h)];cases atT a i u<;>rfl
theorem get_unfit {a:Tr} {s i:Int} {u:ByteArray} (h:fitT a.k s≠0):getT a s i u=(nullT,fitT a.k s):=by
 unfold getT;rw[if_pos h]
theorem va_Get {S:Nat->Prop} (w:World) (a:Tr) (x:Cel) (ha:ValB a) (hv:VAt S w a x) (s i:Int) (u:ByteArray) (hu:u.size<=9223372036854775800):
  Calls Tryz.prog 34 #[.agg (celC x),.agg #[.int .i64 s,.int .i64 i,.string u]] w fun r w'=>∃y,r=.returned (.tuple #[.agg (celC y),.int .i64 (getT a s i u).2])/\VAt S w' (getT a s i u).1 y/\Below w.heap.size w w':=by
 obtain⟨w1,hw1⟩:∃w1,((w.alloc (.cells (celC x) 35)).alloc (.cells #[.int .i64 s,.int .i64 i,.string u] 67)).alloc (.cells #[.int .i64 0,.int .i64 0,.string ⟨#[]⟩,.pointer none] 35)=w1:=⟨_,rfl⟩
 obtain⟨hb1,hx1,hs1',hy1,hz1⟩:=three_newV hw1;have HX1:=iH hx1;have HT1:=iH hs1';have HY1:=iH hy1;have HB1:=iH hb1;have HS1:=iH hz1;have HBE:=iH (va_bears w1 x s i u);rw[hv.k,bears_fit]at HBE;by_cases hf:fitT a.k s=0
 ·have h4:4<=a.k:=by rcases fit_kind hf with⟨_,h⟩|⟨_,h⟩|⟨_,h⟩<;>omega
  obtain⟨b,l,hp,_⟩:=hv.parts h4;have HAT:=iH (fun W (hb:Below w.heap.size w W)=>va_at W a x b ha (hv.old.later hb) hp s i u hf hu);have HPX:Hid ((celC x)[3]? =some (.pointer (some ⟨b,0,none⟩))):=by show _=_;rw[<-hp];rfl
  rw[get_part hf];rw[hf]at HBE;cases e:atT a i u with
  |none=>
   have hn:partT a i u=nullT:=by unfold partT;rw[e]
   rw[e,hn]at HAT;rw[hn];clear hx1 hs1' hy1 hz1 hb1 hf h4 hp hv ha e hu hn;go_enter Tryz.func34,Tryz.ntmps34;go_upto_region 1 with fail
   clear hw1;go_upto_region 4 with(first
    |(refine ld_if rfl 35 _ rfl w.heap.size rfl 35 _ _ _ HX1.out Tryz.underlying35 rfl val_size ?_)
    |(refine ld_if rfl 67 _ rfl (w.heap.size+1) rfl 67 _ _ _ HT1.out Tryz.underlying67 rfl step_size ?_)
    |(go_at_call 63;refine HBE.out.mono ?_;rintro r w2 ⟨rfl,hb2⟩;have HB2:=iH (tW HB1.out hb2);have HX2:=iH (kW hb2 HX1.out);have HT2:=iH (kW hb2 HT1.out);have HY2:=iH (kW hb2 HY1.out);clear hb2))
   have cp:w2.cell? ⟨w.heap.size,3,none⟩=some (.pointer (some ⟨b,0,none⟩)):=cell_in HX2.out HPX.out;clear HBE HX1 HT1 HY1;go_wp2_with (first
    |(refine ld_if rfl 67 _ rfl (w.heap.size+1) rfl 67 _ _ _ HT2.out Tryz.underlying67 rfl step_size ?_)
    |(go_at_call 64;refine(HAT.out _ HB2.out).mono ?_;rintro r w3 ⟨y,rfl,hy,hb3⟩;have HB3:=iH (tW HB2.out hb3);have HY3:=iH (kW hb3 HY2.out);have HL3:Hid (w.heap.size+3<=w3.heap.size):=(by have h1:=(gZ HY3.out);show _<=_;omega);clear hb3 hy)
    |(refine st_agg rfl 35 _ _ rfl w3.heap.size (celC y) rfl rfl 35 _ (heap_alloc_last _ _) val_size rfl (celC_one y) ?_;intro w4 h4 k4;have HB4:=iH ((HB3.out.trans ((Below.newly' w3 _).mono HB3.out.size)).trans (k4.below HB3.out.size));have HY4:=iH (k4.other (((Below.newly' w3 _).block _ (gZ HY3.out)).trans HY3.out) (by have:=HL3.out;omega));clear h4 k4)
    |(refine st_agg rfl 35 _ _ rfl (w.heap.size+2) #[.int .i64 0,.int .i64 0,.string ⟨#[]⟩,.pointer none] rfl rfl 35 _ HY4.out val_size rfl (by simp[Value.oneCell']) ?_;intro w5 h5 k5))
   exact bodyPost_ret (results_cell_row1 rfl _ _ (w.heap.size+2) 35 _ (0,0) _ rfl h5 Tryz.underlying35 rfl val_size) rfl ⟨zeroV,rfl,vAt_null _ _,HB4.out.trans (k5.below (by omega))⟩
  |some j=>
   rw[e]at HAT;clear hx1 hs1' hy1 hz1 hb1 hf h4 hp hv ha e hu;go_enter Tryz.func34,Tryz.ntmps34;go_upto_region 1 with fail
   clear hw1;go_upto_region 4 with(first
    |(refine ld_if rfl 35 _ rfl w.heap.size rfl 35 _ _ _ HX1.out Tryz.underlying35 rfl val_size ?_)
    |(refine ld_if rfl 67 _ rfl (w.heap.size+1) rfl 67 _ _ _ HT1.out Tryz.underlying67 rfl step_size ?_)
    |(go_at_call 63;refine HBE.out.mono ?_;rintro r w2 ⟨rfl,hb2⟩;have HB2:=iH (tW HB1.out hb2);have HX2:=iH (kW hb2 HX1.out);have HT2:=iH (kW hb2 HT1.out);have HY2:=iH (kW hb2 HY1.out);clear hb2))
   have cp:w2.cell? ⟨w.heap.size,3,none⟩=some (.pointer (some ⟨b,0,none⟩)):=cell_in HX2.out HPX.out;clear HBE HX1 HT1 HY1;go_wp2_with (first
    |(refine ld_if rfl 67 _ rfl (w.heap.size+1) rfl 67 _ _ _ HT2.out Tryz.underlying67 rfl step_size ?_)
    |(go_at_call 64;refine(HAT.out _ HB2.out).mono ?_;rintro r w3 ⟨y,rfl,hy,hb3⟩;have HV3:=iH hy;have HB3:=iH (tW HB2.out hb3);have HY3:=iH (kW hb3 HY2.out);have HL3:Hid (w.heap.size+3<=w3.heap.size):=(by have h1:=(gZ HY3.out);show _<=_;omega);clear hb3 hy)
    |(refine st_agg rfl 35 _ _ rfl w3.heap.size (celC y) rfl rfl 35 _ (heap_alloc_last _ _) val_size rfl (celC_one y) ?_;intro w4 h4 k4;have HB4:=iH ((HB3.out.trans ((Below.newly' w3 _).mono HB3.out.size)).trans (k4.below HB3.out.size));have HV4:=iH h4;have HQ4:=iH (((Below.newly' w3 _).mono HB3.out.size).trans (k4.below HB3.out.size));have HY4:=iH (k4.other (((Below.newly' w3 _).block _ (gZ HY3.out)).trans HY3.out) (by have:=HL3.out;omega));clear h4 k4)
    |(refine ld_if rfl 35 _ rfl w3.heap.size rfl 35 _ _ _ HV4.out Tryz.underlying35 rfl val_size ?_)
    |(refine st_agg rfl 35 _ _ rfl (w.heap.size+2) (celC y) rfl rfl 35 _ HY4.out val_size rfl (celC_one y) ?_;intro w5 h5 k5))
   have hl:=(gZ HY4.out)
   exact bodyPost_ret (results_cell_row1 rfl _ _ (w.heap.size+2) 35 _ (0,0) _ rfl h5 Tryz.underlying35 rfl val_size) rfl ⟨y,rfl,(HV3.out.kq (Kq.low (HQ4.out.trans (k5.below (by omega))) fun _ h=>h.2)).weak fun _ h=>h.1,HB4.out.trans (k5.below (by omega))⟩
 ·rw[get_unfit hf]
  rcases fit_in a.k s with e|e|e
  ·exact absurd e hf
  all_goals
   rw[e]at HBE ⊢;clear hx1 hs1' hy1 hz1 hb1 hf hv ha e hu;go_enter Tryz.func34,Tryz.ntmps34;go_upto_region 1 with fail
   clear hw1;go_wp2_with (first
    |(refine ld_if rfl 35 _ rfl w.heap.size rfl 35 _ _ _ HX1.out Tryz.underlying35 rfl val_size ?_)
    |(refine ld_if rfl 67 _ rfl (w.heap.size+1) rfl 67 _ _ _ HT1.out Tryz.underlying67 rfl step_size ?_)
    |(go_at_call 63;refine HBE.out.mono ?_;rintro r w2 ⟨rfl,hb2⟩;have HB2:=iH (tW HB1.out hb2);have HX2:=iH (kW hb2 HX1.out);have HT2:=iH (kW hb2 HT1.out);have HY2:=iH (kW hb2 HY1.out);clear hb2)
    |(refine st_agg rfl 35 _ _ rfl (w.heap.size+2) #[.int .i64 0,.int .i64 0,.string ⟨#[]⟩,.pointer none] rfl rfl 35 _ HY2.out val_size rfl (by simp[Value.oneCell']) ?_;intro w5 h5 k5))
   exact bodyPost_ret (results_cell_row1 rfl _ _ (w.heap.size+2) 35 _ (0,0) _ rfl h5 Tryz.underlying35 rfl val_size) rfl ⟨zeroV,rfl,vAt_null _ _,HB2.out.trans (k5.below (by omega))⟩
end Go.Proofs.YtengibnpebfblaaGreatDoor
