import Derived.Test.YtengibnpebfblaaGreatDoorB32
set_option maxRecDepth 1000000
set_option maxHeartbeats 8000000
set_option linter.unusedSimpArgs false
namespace Go.Proofs.YtengibnpebfblaaGreatDoor
open Go.RowKit
theorem short_txt (a:Tr):ShortT a->TxtT 200 a:=by
 induction a using tr_ind with
 |h k n t ks xs ih=>
  intro h;rw[ShortT,shortL_iff]at h;exact txtT_iff.2 ⟨h.1,h.2.1,fun x hx=>ih x hx (h.2.2 x hx)⟩
theorem txt_more {B C:Nat} (hBC:B<=C) (a:Tr):TxtT B a->TxtT C a:=by
 induction a using tr_ind with
 |h k n t ks xs ih=>
  intro h;obtain⟨h1,h2,h3⟩:=txtT_iff.1 h;exact txtT_iff.2 ⟨Nat.le_trans h1 hBC,fun y hy=>Nat.le_trans (h2 y hy) hBC,fun x hx=>ih x hx (h3 x hx)⟩
theorem sm_few (M:Nat) (a:Tr):∀d l,(smT a d l).2=true->l+50<=M->FewT M a:=by
 induction a using tr_ind with
 |h k n t ks xs ih=>
  intro d l h hM;rw[smT]at h;split at h
  ·cases h
  split at h
  ·cases h
  rename_i hc _
  have hL:∀(ys:List Tr),(∀x∈ys,∀d l,(smT x d l).2=true->l+50<=M->FewT M x)->∀d l,(smL ys d l).2=true->l+50<=M->∀x∈ys,FewT M x:=by
   intro ys;induction ys with
   |nil=>intro _ _ _ _ _ x hx;cases hx
   |cons y ys ihy=>
    intro hy d l h hM;rw[smL]at h;split at h
    ·rename_i h1
     have h2:=sm_true y d l h1;intro x hx;rcases List.mem_cons.1 hx with rfl|hx
     ·exact hy _ (List.mem_cons_self ..) d l h1 hM
     ·exact ihy (fun z hz=>hy z (List.mem_cons_of_mem _ hz)) d _ h (by omega) x hx
    ·cases h
  refine fewT_iff.2 ⟨?_,hL xs (fun x hx=>ih x hx) (d+1) (l-1) h (by omega)⟩;show ks.length<=M;omega
theorem ins_root {S:Nat->Prop} {c:Array Value} {l:List Cel} (W:World) (h:RootR S W c l) (i:Nat) (x:Cel) (hi:i<=l.length) (hN:l.length<=50000):
  Calls Tryz.prog 84 #[.agg c,.int .i64 (i:Int),.agg (celC x)] W fun e W'=>∃v,e=.returned v/\∃(hh:Nat) (ks:List Kid),NodesR (fun g=>S g\/W.heap.size<=g) W' hh v ks/\catK ks=insL l i x/\Wide hh ks/\Below W.heap.size W W':=by
 rcases h with⟨rfl,rfl⟩|⟨h,p,rfl,rfl,h3,h4⟩
 ·refine(ins_leaf 0 S W (.slice none 0 0) [] i x ⟨rfl,.inl ⟨rfl,rfl⟩⟩ (by simp) hi).mono ?_
  rintro e W' ⟨v,rfl,ks,h1,h2,h3,h4⟩;exact⟨v,rfl,0,ks,h1.weak fun g hg=>.inr hg,h2,fun p hp=>⟨(h3.2 p hp).1,fun _=>.inl rfl⟩,h4⟩
 ·refine(rp_insert h S W p i x (min 2 p.k) h3 hi hN (by omega) (by omega)).mono ?_
  rintro e W' ⟨v,rfl,ks,h1,h2,h5,h6,h7⟩;exact⟨v,rfl,h,ks,h1,h2,fun y hy=>⟨(h6 y hy).2,fun _=>h4.imp_right fun h4=>by have:=(h6 y hy).1;omega⟩,h7⟩
theorem rp_Insert_mid {S:Nat->Prop} {c:Array Value} {l:List Cel} (W:World) (h:RootR S W c l) (i:Nat) (x:Cel) (hi:i<l.length) (hN:l.length<=50000):
    Calls Tryz.prog 47 #[.agg c,.int .i64 (i:Int),.agg (celC x)] W fun e W'=>∃c',e=.returned (.tuple #[.agg c',.int .i64 0])/\RootR (fun g=>S g\/W.heap.size<=g) W' c' (insL l i x)/\Below W.heap.size W W':=by
  obtain⟨w2,hw2⟩:∃w2,((W.alloc (.cells c 88)).alloc (.cells (celC x) 35)).alloc (.cells #[.int .i64 0,.int .i64 0,.slice none 0 0,.slice none 0 0] 88)=w2:=⟨_,rfl⟩
  obtain⟨hb2,hx2,hv2,hy2,hs2⟩:=three_newV hw2;have HV2:=iH hv2;have HX2:=iH hx2;have HY2:=iH hy2;have HB2:=iH hb2;have HS2:=iH hs2;have HS:=iH h.size;have HH:=iH (rp_has w2 (h.later hb2) (i:Int));rw[show decide (0<=(i:Int)/\(i:Int)<l.length)=true by simp;omega]at HH;have HINS:=iH (fun V (hV:Below W.heap.size W V)=>ins_root V (h.old.later hV) i x (by omega) hN);have HLL:Hid ((insL l i x).length<=100000):=by show _<=_;unfold insL;rw[List.length_append,List.length_take,List.length_cons,List.length_drop];omega
  obtain⟨l',hl'⟩:∃l',l'=insL l i x:=⟨_,rfl⟩
  rw[<-hl']at HINS HLL ⊢;clear hb2 hx2 hv2 hy2 hs2 h hi hN hl';go_enter Tryz.func47,Tryz.ntmps47;go_upto_region 1 with fail
  clear hw2;go_wp2_with (first
    |(refine ld_if rfl 35 _ rfl (W.heap.size+1) rfl 35 _ _ _ HV3.out Tryz.underlying35 rfl val_size ?_)
    |(refine ld_if rfl 88 _ rfl W.heap.size rfl 88 _ _ _ HX2.out Tryz.underlying88 rfl (by rw[HS.out];exact rope_size) ?_)
    |(go_at_call 81
      refine HH.out.mono ?_;rintro e w3 ⟨rfl,hb3⟩;have HX3:=iH ((hb3.block W.heap.size (by have:=HS2.out;omega)).trans HX2.out);have HV3:=iH ((hb3.block (W.heap.size+1) (by have:=HS2.out;omega)).trans HV2.out);have HY3:=iH ((hb3.block (W.heap.size+2) (by have:=HS2.out;omega)).trans HY2.out);have HB3:=iH (tW HB2.out hb3);have HS3:Hid (W.heap.size+3<=w3.heap.size):=(by have h1:=HS2.out;have h2:=hb3.size;show _<=_;omega)
      clear hb3)
    |(refine ld_if rfl 86 _ rfl W.heap.size rfl 88 _ _ _ HX3.out Tryz.underlying86 rfl (by rw[HS.out];exact rnode_size) ?_)
    |(go_at_call 84
      refine(HINS.out _ HB3.out).mono ?_;rintro e w4 ⟨v4,rfl,hh4,ks,hn4,hc4,hf4,hb4⟩;have HT:=iH (rp_top w4 hh4 v4 ks hn4 hf4 (by rw[hc4];exact HLL.out));rw[hc4]at HT;obtain⟨a4,cap4,rfl,_⟩:=hn4.1.shape;have HY4:=iH ((hb4.block (W.heap.size+2) (by have:=HS3.out;omega)).trans HY3.out);have HB4:=iH hb4;clear hn4 hc4 hf4 hb4)
    |(go_at_call 83
      refine HT.out.mono ?_;rintro e w7 ⟨c7,rfl,hr7,hb7⟩;obtain⟨y0,y1,q1,n1,c1,q2,n2,c2,rfl⟩:=hr7.four;have HR7:=iH hr7;have HB7:=iH hb7;have HY7:=iH ((hb7.block (W.heap.size+2) (by have:=HS3.out;have:=HB4.out.size;omega)).trans HY4.out);clear hr7 hb7)
    |(refine st_agg rfl 88 _ _ rfl (W.heap.size+2) _ rfl rfl 88 _ HY7.out rope_size rfl (one4 rfl rfl rfl rfl) ?_;intro w5 h5 k5))
  refine bodyPost_ret (results_cell_row1 rfl _ _ (W.heap.size+2) 88 _ (0,0) _ rfl h5 Tryz.underlying88 rfl rope_size) rfl ⟨_,rfl,?_,?_⟩
  ·have hs3:=HS3.out
   have hs4:=HB4.out.size;refine(HR7.out.kept k5.by_ (fun X e=>by cases e;rintro((⟨_,h⟩|h)|h)<;>omega)).weak fun g hg=> ?_
   rcases hg with(hg|hg)|hg
   ·exact .inl hg.1
   ·exact .inr (by omega)
   ·exact .inr (by omega)
  ·have hs3:=HS3.out
   have hs4:=HB4.out.size;exact((HB3.out.trans (HB4.out.mono (by omega))).trans (HB7.out.mono (by omega))).trans (k5.below (by omega))
theorem rp_Insert_end {S:Nat->Prop} {c:Array Value} {l:List Cel} (W:World) (h:RootR S W c l) (i:Nat) (x:Cel) (hi:i=l.length) (hN:l.length<=50000):
    Calls Tryz.prog 47 #[.agg c,.int .i64 (i:Int),.agg (celC x)] W fun e W'=>∃c',e=.returned (.tuple #[.agg c',.int .i64 0])/\RootR (fun g=>S g\/W.heap.size<=g) W' c' (insL l i x)/\Below W.heap.size W W':=by
  obtain⟨w2,hw2⟩:∃w2,((W.alloc (.cells c 88)).alloc (.cells (celC x) 35)).alloc (.cells #[.int .i64 0,.int .i64 0,.slice none 0 0,.slice none 0 0] 88)=w2:=⟨_,rfl⟩
  obtain⟨hb2,hx2,hv2,hy2,hs2⟩:=three_newV hw2;have HV2:=iH hv2;have HX2:=iH hx2;have HY2:=iH hy2;have HB2:=iH hb2;have HS2:=iH hs2;have HS:=iH h.size;have HH:=iH (rp_has w2 (h.later hb2) (i:Int));rw[show decide (0<=(i:Int)/\(i:Int)<l.length)=false by simp;omega]at HH;have HLEN:=iH (fun V (hV:Below W.heap.size W V)=>rp_Len V (h.later hV));rw[<-hi]at HLEN;have HINS:=iH (fun V (hV:Below W.heap.size W V)=>ins_root V (h.old.later hV) i x (by omega) hN);have HLL:Hid ((insL l i x).length<=100000):=by show _<=_;unfold insL;rw[List.length_append,List.length_take,List.length_cons,List.length_drop];omega
  obtain⟨l',hl'⟩:∃l',l'=insL l i x:=⟨_,rfl⟩
  rw[<-hl']at HINS HLL ⊢;clear hb2 hx2 hv2 hy2 hs2 h hi hN hl';go_enter Tryz.func47,Tryz.ntmps47;go_upto_region 1 with fail
  clear hw2;go_wp2_with (first
    |(refine ld_if rfl 35 _ rfl (W.heap.size+1) rfl 35 _ _ _ HV6.out Tryz.underlying35 rfl val_size ?_)
    |(refine ld_if rfl 88 _ rfl W.heap.size rfl 88 _ _ _ HX2.out Tryz.underlying88 rfl (by rw[HS.out];exact rope_size) ?_)
    |(go_at_call 81
      refine HH.out.mono ?_;rintro e w3 ⟨rfl,hb3⟩;have HX3:=iH ((hb3.block W.heap.size (by have:=HS2.out;omega)).trans HX2.out);have HV3:=iH ((hb3.block (W.heap.size+1) (by have:=HS2.out;omega)).trans HV2.out);have HY3:=iH ((hb3.block (W.heap.size+2) (by have:=HS2.out;omega)).trans HY2.out);have HB3:=iH (tW HB2.out hb3);have HS3:Hid (W.heap.size+3<=w3.heap.size):=(by have h1:=HS2.out;have h2:=hb3.size;show _<=_;omega)
      clear hb3)
    |(refine ld_if rfl 88 _ rfl W.heap.size rfl 88 _ _ _ HX3.out Tryz.underlying88 rfl (by rw[HS.out];exact rope_size) ?_)
    |(go_at_call 82
      refine(HLEN.out _ HB3.out).mono ?_;rintro e w6 ⟨rfl,hw6⟩;have HX6:Hid (w6.heap[W.heap.size]? =some (.cells c 88 (0,0))):=(by show _=_;rw[hw6];exact((Below.newly' w3 _).block W.heap.size (by have:=HS3.out;omega)).trans HX3.out)
      have HV6:Hid (w6.heap[W.heap.size+1]? =some (.cells (celC x) 35 (0,0))):=(by show _=_;rw[hw6];exact((Below.newly' w3 _).block (W.heap.size+1) (by have:=HS3.out;omega)).trans HV3.out)
      have HY6:Hid (w6.heap[W.heap.size+2]? =some (.cells #[.int .i64 0,.int .i64 0,.slice none 0 0,.slice none 0 0] 88 (0,0))):=(by show _=_;rw[hw6];exact((Below.newly' w3 _).block (W.heap.size+2) (by have:=HS3.out;omega)).trans HY3.out)
      have HB6:Hid (Below W.heap.size W w6):=(by show Below _ _ _;rw[hw6];exact HB3.out.trans ((Below.newly' w3 _).mono HB3.out.size))
      have HS6:Hid (W.heap.size+3<=w6.heap.size):=(by have:=HS3.out;show _<=_;rw[hw6];simp;omega)
      clear hw6)
    |(refine ld_if rfl 86 _ rfl W.heap.size rfl 88 _ _ _ HX6.out Tryz.underlying86 rfl (by rw[HS.out];exact rnode_size) ?_)
    |(go_at_call 84
      refine(HINS.out _ HB6.out).mono ?_;rintro e w4 ⟨v4,rfl,hh4,ks,hn4,hc4,hf4,hb4⟩;have HT:=iH (rp_top w4 hh4 v4 ks hn4 hf4 (by rw[hc4];exact HLL.out));rw[hc4]at HT;obtain⟨a4,cap4,rfl,_⟩:=hn4.1.shape;have HY4:=iH ((hb4.block (W.heap.size+2) (by have:=HS6.out;omega)).trans HY6.out);have HB4:=iH hb4;clear hn4 hc4 hf4 hb4)
    |(go_at_call 83
      refine HT.out.mono ?_;rintro e w7 ⟨c7,rfl,hr7,hb7⟩;obtain⟨y0,y1,q1,n1,c1,q2,n2,c2,rfl⟩:=hr7.four;have HR7:=iH hr7;have HB7:=iH hb7;have HY7:=iH ((hb7.block (W.heap.size+2) (by have:=HS6.out;have:=HB4.out.size;omega)).trans HY4.out);clear hr7 hb7)
    |(refine st_agg rfl 88 _ _ rfl (W.heap.size+2) _ rfl rfl 88 _ HY7.out rope_size rfl (one4 rfl rfl rfl rfl) ?_;intro w5 h5 k5))
  refine bodyPost_ret (results_cell_row1 rfl _ _ (W.heap.size+2) 88 _ (0,0) _ rfl h5 Tryz.underlying88 rfl rope_size) rfl ⟨_,rfl,?_,?_⟩
  ·have hs3:=HS6.out
   have hs4:=HB4.out.size;refine(HR7.out.kept k5.by_ (fun X e=>by cases e;rintro((⟨_,h⟩|h)|h)<;>omega)).weak fun g hg=> ?_
   rcases hg with(hg|hg)|hg
   ·exact .inl hg.1
   ·exact .inr (by omega)
   ·exact .inr (by omega)
  ·have hs3:=HS6.out
   have hs4:=HB4.out.size;exact((HB6.out.trans (HB4.out.mono (by omega))).trans (HB7.out.mono (by omega))).trans (k5.below (by omega))
theorem rp_Insert_out {S:Nat->Prop} {c:Array Value} {l:List Cel} (W:World) (h:RootR S W c l) (i:Int) (x:Cel) (hi:¬(0<=i/\i<=l.length)):
    Calls Tryz.prog 47 #[.agg c,.int .i64 i,.agg (celC x)] W fun e W'=>e=.returned (.tuple #[.agg zeroR,.int .i64 4])/\Below W.heap.size W W':=by
  obtain⟨w2,hw2⟩:∃w2,((W.alloc (.cells c 88)).alloc (.cells (celC x) 35)).alloc (.cells #[.int .i64 0,.int .i64 0,.slice none 0 0,.slice none 0 0] 88)=w2:=⟨_,rfl⟩
  obtain⟨hb2,hx2,hv2,hy2,hs2⟩:=three_newV hw2;have HV2:=iH hv2;have HX2:=iH hx2;have HY2:=iH hy2;have HB2:=iH hb2;have HS2:=iH hs2;have HS:=iH h.size;have HH:=iH (rp_has w2 (h.later hb2) i);rw[show decide (0<=i/\i<l.length)=false by simp;omega]at HH;have HLEN:=iH (fun V (hV:Below W.heap.size W V)=>rp_Len V (h.later hV));obtain⟨n,hn⟩:∃n,n=l.length:=⟨_,rfl⟩
  rw[<-hn]at HLEN hi;have hne:(i==(n:Int))=false:=beq_eq_false_iff_ne.2 (by omega);have hne':¬i=(n:Int):=by omega
  clear hb2 hx2 hv2 hy2 hs2 h hi hn;go_enter Tryz.func47,Tryz.ntmps47;go_upto_region 1 with fail
  clear hw2;go_wp2_with (first
    |(refine ld_if rfl 88 _ rfl W.heap.size rfl 88 _ _ _ HX2.out Tryz.underlying88 rfl (by rw[HS.out];exact rope_size) ?_)
    |(go_at_call 81
      refine HH.out.mono ?_;rintro e w3 ⟨rfl,hb3⟩;have HX3:=iH ((hb3.block W.heap.size (by have:=HS2.out;omega)).trans HX2.out);have HV3:=iH ((hb3.block (W.heap.size+1) (by have:=HS2.out;omega)).trans HV2.out);have HY3:=iH ((hb3.block (W.heap.size+2) (by have:=HS2.out;omega)).trans HY2.out);have HB3:=iH (tW HB2.out hb3);have HS3:Hid (W.heap.size+3<=w3.heap.size):=(by have h1:=HS2.out;have h2:=hb3.size;show _<=_;omega)
      clear hb3)
    |(refine ld_if rfl 88 _ rfl W.heap.size rfl 88 _ _ _ HX3.out Tryz.underlying88 rfl (by rw[HS.out];exact rope_size) ?_)
    |(go_at_call 82
      refine(HLEN.out _ HB3.out).mono ?_;rintro e w6 ⟨rfl,hw6⟩;have HX6:Hid (w6.heap[W.heap.size]? =some (.cells c 88 (0,0))):=(by show _=_;rw[hw6];exact((Below.newly' w3 _).block W.heap.size (by have:=HS3.out;omega)).trans HX3.out)
      have HV6:Hid (w6.heap[W.heap.size+1]? =some (.cells (celC x) 35 (0,0))):=(by show _=_;rw[hw6];exact((Below.newly' w3 _).block (W.heap.size+1) (by have:=HS3.out;omega)).trans HV3.out)
      have HY6:Hid (w6.heap[W.heap.size+2]? =some (.cells #[.int .i64 0,.int .i64 0,.slice none 0 0,.slice none 0 0] 88 (0,0))):=(by show _=_;rw[hw6];exact((Below.newly' w3 _).block (W.heap.size+2) (by have:=HS3.out;omega)).trans HY3.out)
      have HB6:Hid (Below W.heap.size W w6):=(by show Below _ _ _;rw[hw6];exact HB3.out.trans ((Below.newly' w3 _).mono HB3.out.size))
      have HS6:Hid (W.heap.size+3<=w6.heap.size):=(by have:=HS3.out;show _<=_;rw[hw6];simp;omega)
      clear hw6)
    |(refine st_agg rfl 88 _ _ rfl (W.heap.size+2) zeroR rfl rfl 88 _ HY6.out rope_size rfl (one4 rfl rfl rfl rfl) ?_;intro w5 h5 k5))
  exact bodyPost_ret (results_cell_row1 rfl _ _ (W.heap.size+2) 88 _ (0,0) _ rfl h5 Tryz.underlying88 rfl rope_size) rfl ⟨rfl,HB6.out.trans (k5.below (by omega))⟩
theorem rp_Insert {S:Nat->Prop} {c:Array Value} {l:List Cel} (W:World) (h:RootR S W c l) (i:Nat) (x:Cel) (hi:i<=l.length) (hN:l.length<=50000):
  Calls Tryz.prog 47 #[.agg c,.int .i64 (i:Int),.agg (celC x)] W fun e W'=>∃c',e=.returned (.tuple #[.agg c',.int .i64 0])/\RootR (fun g=>S g\/W.heap.size<=g) W' c' (insL l i x)/\Below W.heap.size W W':=by
 rcases Nat.lt_or_ge i l.length with h1|h1
 ·exact rp_Insert_mid W h i x h1 hN
 ·exact rp_Insert_end W h i x (by omega) hN
theorem dep_tal (a:Tr):depT a=(tal a.xs).length+1:=by rw[depT_eq,tal_len]
theorem within_dep {a:Tr} (h:63<(tal a.xs).length):withinT a=(nullT,7):=by
 unfold withinT;rw[if_pos (by rw[dep_tal];omega)]
theorem within_nod {a:Tr} (h:(tal a.xs).length<=63) (hn:16383<nodL a.xs):withinT a=(nullT,8):=by
 unfold withinT;rw[if_neg (by rw[dep_tal];omega),if_pos (by rw[nodT_eq];omega)]
theorem within_in {a:Tr} (h:(tal a.xs).length<=63) (hn:nodL a.xs<=16383):withinT a=(a,0):=by
 unfold withinT;rw[if_neg (by rw[dep_tal];omega),if_neg (by rw[nodT_eq];omega)]
theorem va_changedT {S:Nat->Prop} (w:World) (x:Cel) (b:Nat) (hp:x.p=some ⟨b,0,none⟩) (rc mc:Array Value) (d0:Value) (N0:Nat) (fr:Nat×Nat) (hbk:w.heap[b]? =some (.cells (innC rc mc d0 N0) 103 fr)) (lr0:List Cel) (hr0:RootR S w rc lr0)
  (lm0:List Ent) (sd:Nat) (nn:Int) (hm0:MapAt S w sd nn lm0 mc) (hsd:sd<18446744073709551616) (t0:List Int) (hd0:CutAt S w 1 d0 (iv t0) t0.length) (fnum:Nat) (lb:Array Value) (hent:∀args w,(callFunc fnum args).run Tryz.prog w=.ok (.enter fnum args) w)
  (a':Tr) (h4:4<=a'.k) (hk:x.k=a'.k) (hn:x.n=0/\a'.n=0) (ht:x.t=⟨#[]⟩/\a'.t=⟨#[]⟩) (l':List Cel) (hl':VAtL S w a'.xs l')
  (hchg:Chgs S w rc mc d0 N0 (itemE a'.k l') sd nn (mapE a'.k a'.ks a'.xs l') fnum lb) (d:Value) (hd:CutAt S w 1 d (iv (tal a'.xs)) (tal a'.xs).length) (hl:(tal a'.xs).length<=100) (hnl:nodL a'.xs<=100000):
  Calls Tryz.prog 48 #[.agg (celC x),.agg #[d,.int .i64 (nodL a'.xs:Int)],.func (.func fnum) #[] lb] w fun r w'=>∃y,r=.returned (.tuple #[.agg (celC y),.int .i64 (withinT a').2])/\VAt (fun g=>S g\/w.heap.size<=g) w' (withinT a').1 y/\Below w.heap.size w w':=by
 obtain⟨da,dc,rfl,_⟩:=hd.shape;have h1d:d0.oneCell'=true:=by obtain⟨_,_,rfl,_⟩:=hd0.shape;rfl
 refine(va_changed w x b hp rc mc d0 N0 fr hbk hr0.size hm0.size hr0.one hm0.one h1d _ sd nn _ fnum lb hent hchg da dc (tal a'.xs) (nodL a'.xs) hl hnl).mono fun r w' h=> ?_
 obtain⟨hb,⟨h1,rfl⟩|⟨h1,h2,rfl⟩|⟨h1,h2,X,rc',mc',rfl,h3,h5,h6,h7⟩⟩:=h
 ·rw[within_dep h1];exact⟨zeroV,rfl,vAt_null _ _,hb⟩
 ·rw[within_nod h1 h2];exact⟨zeroV,rfl,vAt_null _ _,hb⟩
 ·rw[within_in h1 h2]
  refine⟨_,rfl,?_,hb⟩;rw[hk,hn.1,ht.1,<-hn.2,<-ht.2];exact vAt_inner h4 (.inr h3) ((hl'.later hb).weak fun _ h=>.inl h) ⟨rc',mc',_,_,sd,nn,h5,hsd,h6,h7,(hd.later hb).weak fun _ h=>.inl h⟩
theorem put_perm2 {α:Type} (n:Nat) (l:List α) (y:α):(l++[y]).Perm (putN n l y):=(List.perm_append_comm.trans (by rw[List.singleton_append])).trans (putN_perm n l y).symm
theorem vAtL_take {S:Nat->Prop} {W:World} {xs:List Tr} {l:List Cel} (h:VAtL S W xs l) (n:Nat):VAtL S W (xs.take n) (l.take n):=by
 have hl:=vAtL_len h;refine vAtL_of (by rw[List.length_take,List.length_take,hl]) fun k hk hk2=> ?_
 rw[List.getElem_take,List.getElem_take];exact vAtL_at h _ _
theorem vAtL_drop {S:Nat->Prop} {W:World} {xs:List Tr} {l:List Cel} (h:VAtL S W xs l) (n:Nat):VAtL S W (xs.drop n) (l.drop n):=by
 have hl:=vAtL_len h;refine vAtL_of (by rw[List.length_drop,List.length_drop,hl]) fun k hk hk2=> ?_
 rw[List.getElem_drop,List.getElem_drop];exact vAtL_at h _ _
theorem vAtL_put {S:Nat->Prop} {W:World} {xs:List Tr} {l:List Cel} (h:VAtL S W xs l) (n:Nat) {y:Tr} {c:Cel} (hy:VAt S W y c):VAtL S W (putN n xs y) (putN n l c):=by
 unfold putN;have h1:VAtL S W (y::xs.drop n) (c::l.drop n):=by rw[VAtL];exact⟨c,_,rfl,hy,vAtL_drop h n⟩
 exact vAtL_app (vAtL_take h n) h1
end Go.Proofs.YtengibnpebfblaaGreatDoor
