import Derived.Test.YtengibnpebfblaaGreatDoorB16
set_option maxRecDepth 1000000
set_option maxHeartbeats 8000000
set_option linter.unusedSimpArgs false
namespace Go.Proofs.YtengibnpebfblaaGreatDoor
open Go.RowKit
theorem all_ofG {α:Type} {R:Rg α} {i:Nat} (hi:i<32) {x:α} (h:R i=some x):(i,x)∈allG R:=List.mem_of_getElem? (all_atG R hi h)
theorem all_oneG {α:Type} {R:Rg α} {i:Nat} (hi:i<32) {x:α} (h:R i=some x) (ho:∀j,j<32->j≠i->R j=none):allG R=[(i,x)]:=by
 unfold allG;rw[range_at hi,List.filterMap_append,List.filterMap_append];have e1:(List.range i).filterMap (fun j=>(R j).map fun x=>(j,x))=[]:=by
  rw[List.filterMap_eq_nil_iff];intro j hj;rw[List.mem_range]at hj;rw[ho j (by omega) (by omega)];rfl
 have e2:((List.range (31-i)).map (i+1+ ·)).filterMap (fun j=>(R j).map fun x=>(j,x))=[]:=by
  rw[List.filterMap_eq_nil_iff];intro j hj;rw[List.mem_map]at hj;obtain⟨a,ha,rfl⟩:=hj;rw[List.mem_range]at ha;rw[ho _ (by omega) (by omega)];rfl
 rw[e1,e2];simp[h]
section
variable {hs : ByteArray → Nat} {S : Nat → Prop} {w : World} {f : Nat} {L : List Ent} {R : Rg Pl} {lv : Nat}
theorem row_one {e:Ent} (h:∀i,i<32->PlAt hs S w (NodeAt hs S f w) (chE hs lv i [e]) (R i)):∃b,EntAt hs S w b e/\allG R=[(chunkN (hs e.1) lv,(some b,none))]:=by
 have hi:=chunkN_lt (hs e.1) lv;have h1:=h _ hi;rw[show chE hs lv (chunkN (hs e.1) lv) [e]=[e] by simp[chE]]at h1;obtain⟨b,h2,h3⟩:=h1;refine⟨b,h3,all_oneG hi h2 fun j hj hne=> ?_⟩;have h4:=h j hj;rw[show chE hs lv j [e]=[] by simp[chE,Ne.symm hne]]at h4;exact h4
theorem row_more {a b:Ent} {M:List Ent} (hL:L=a::b::M) (h:∀i,i<32->PlAt hs S w (NodeAt hs S f w) (chE hs lv i L) (R i)) (h1:cntG R 32=1):(firstG R).2.1.1=none:=by
 have hl:(allG R).length=1:=by rw[all_lenG,h1]
 obtain⟨p,hp⟩:=List.length_eq_one_iff.1 hl;have hm:=all_memG (R:=R) (p:=p) (by rw[hp];exact List.mem_singleton.2 rfl);have huniq:∀j,j<32->(R j).isSome=true->j=p.1:=fun j hj hs=>by
  obtain⟨x,hx⟩:=Option.isSome_iff_exists.1 hs;have:=all_ofG hj hx;rw[hp,List.mem_singleton]at this;rw[<-this]
 have hall:chE hs lv p.1 L=L:=by
  unfold chE;rw[List.filter_eq_self];intro e he;have hj:=chunkN_lt (hs e.1) lv;have hpl:=h _ hj;have hne:e∈chE hs lv (chunkN (hs e.1) lv) L:=mem_ch.2 ⟨he,rfl⟩;have hsome:(R (chunkN (hs e.1) lv)).isSome=true:=by
   generalize chE hs lv (chunkN (hs e.1) lv) L=K at hpl hne
   match K,hpl,hne with
   |[],_,hne=>cases hne
   |[x],hpl,_=>obtain⟨b,h2,_⟩:=hpl;rw[h2];rfl
   |x::y::r,hpl,_=>obtain⟨b,c,fr,h2,_⟩:=hpl;rw[h2];rfl
  rw[decide_eq_true_eq];exact huniq _ hj hsome
 have h2:=h p.1 hm.1;rw[hall,hL]at h2;obtain⟨g,c,fr,h3,_⟩:=h2;rw[hm.2]at h3;unfold firstG;rw[hp];simp only;rw[Option.some.inj h3]
end
def PlaceOk (hs:ByteArray->Nat) (f:Nat):Prop:=∀(S:Nat->Prop) (w:World) (L:List Ent) (c:Array Value),NodeAt hs S f w L c->L≠[]->Tab6 w->
  Calls Tryz.prog 179 #[.agg c] w fun r w'=>∃p,r=.returned (.agg (plc p))/\PlAt hs (fun g=>S g\/w.heap.size<=g) w' (NodeAt hs (fun g=>S g\/w.heap.size<=g) f w') L (some p)/\Below w.heap.size w w'
theorem place_more {hs:ByteArray->Nat} {S:Nat->Prop} {w w':World} {f:Nat} {a b:Ent} {M:List Ent} {c:Array Value} {fr:Nat×Nat} (h:NodeAt hs S f w (a::b::M) c) (hb:Below w.heap.size w w') (hx:w'.heap[w.heap.size]? =some (.cells c 96 fr)):
  PlAt hs (fun g=>S g\/w.heap.size<=g) w' (NodeAt hs (fun g=>S g\/w.heap.size<=g) f w') (a::b::M) (some (none,some w.heap.size)):=
 ⟨_,c,fr,rfl,.inr (Nat.le_refl _),hx,(h.later hb).weak fun _ h=>.inl h⟩
theorem hm_place_0 (hs:ByteArray->Nat):PlaceOk hs 0:=by
 intro S w L c h hne hT;have hh:=h;obtain⟨v,qs,rfl,h2,hq,h4⟩:=h;obtain⟨hl,h2⟩:=h2;rcases h2 with⟨h0,_⟩|⟨h0,g,cp,cur,rfl,hcp,hS,hgg,hc⟩
 ·exact absurd (List.eq_nil_of_length_eq_zero h0) hne
 ·match L,hne,hh,hq,h0 with
  |[e],_,hh,hq,_=>
   obtain⟨q,rfl⟩:∃q,qs=[q]:=List.length_eq_one_iff.1 (by have:=congrArg List.length hq;simpa using this.symm)
   obtain rfl:e=q.2:=by simpa using hq
   have HE:=iH (h4 q (List.mem_singleton.2 rfl));have hcell:w.cell? ⟨g,0,none⟩=some (pv (some q.1)):=cell_in hgg (hc 0 _ rfl);rw[show[q.2].length=1 from rfl];obtain⟨w1,hw1⟩:∃w1,(w.alloc (.cells #[.int .u32 0,.slice none 0 0,.slice (some ⟨g,0,none⟩) 1 cp] 96)).alloc (.cells #[.pointer none,.pointer none] 186)=w1:=⟨_,rfl⟩
   obtain⟨hb1,hx1,hy1,hs1⟩:=two_newG hw1;have HX1:=iH hx1;have HY1:=iH hy1;have HB1:=iH hb1;have HS1:=iH hs1;have ca2:w1.cell? ⟨w.heap.size,2,none⟩=some (.slice (some ⟨g,0,none⟩) 1 cp):=cell_in hx1 rfl;have hc1:w1.cell? ⟨g,0,none⟩=some (.pointer (some ⟨q.1,0,none⟩)):=(hb1.cell (p:=⟨g,0,none⟩) (gZ hgg)).trans hcell;clear hh hq hx1 hy1 hb1 hs1 h4 hl hc hgg hcell;go_enter Tryz.func179,Tryz.ntmps179;go_upto_region 1 with fail
   clear hw1;go_wp2_with (first
    |(refine st_agg rfl 186 _ _ rfl (w.heap.size+1) (plc (some q.1,none)) rfl rfl 186 _ HY1.out pl_size rfl (plc_one (some q.1,none)) ?_;intro w4 h4 k4))
   exact bodyPost_ret (results_cell_row rfl _ _ (w.heap.size+1) 186 _ (0,0) _ rfl h4 Tryz.underlying186 rfl pl_size) rfl ⟨(some q.1,none),rfl,⟨q.1,rfl,(HE.out.later (HB1.out.trans (k4.below (by omega)))).weak fun _ h=>.inl h⟩,HB1.out.trans (k4.below (by omega))⟩
  |a::b::M,_,hh,_,_=>
   obtain⟨N,hN⟩:∃N,N=(a::b::M).length:=⟨_,rfl⟩
   have hN1:((N:Int)==1)=false:=beq_eq_false_iff_ne.2 (by rw[hN,List.length_cons,List.length_cons];omega);have HH:=iH hh;rw[<-hN]at HH ⊢;obtain⟨w1,hw1⟩:∃w1,(w.alloc (.cells #[.int .u32 0,.slice none 0 0,.slice (some ⟨g,0,none⟩) N cp] 96)).alloc (.cells #[.pointer none,.pointer none] 186)=w1:=⟨_,rfl⟩
   obtain⟨hb1,hx1,hy1,hs1⟩:=two_newG hw1;have HX1:=iH hx1;have HY1:=iH hy1;have HB1:=iH hb1;have HS1:=iH hs1;have ca2:w1.cell? ⟨w.heap.size,2,none⟩=some (.slice (some ⟨g,0,none⟩) N cp):=cell_in hx1 rfl;have HF:=iH (fun W (hb:Below w.heap.size w W)=>pr_First W noG _ (AtR.zero (fun _=>True) W) (hT.below hb));have hf0:firstG (noG:Rg Pl)=(0,(none,none),false):=rfl;rw[hf0]at HF;have HLN:=iH (fun W=>pr_Len W noG _ (AtR.zero (fun _=>True) W));rw[cnt_noG]at HLN;clear hh hx1 hy1 hb1 hs1 h4 hl hc hgg hq hN hcp h0 hf0;go_enter Tryz.func179,Tryz.ntmps179;go_upto_region 1 with fail
   clear hw1;go_wp2_with (first
    |(refine wpList_load_mid rfl 93 _ rfl w.heap.size 0 rfl [.int .u32 0,.slice none 0 0] _ (row_range HX1.out) Tryz.underlying93 rfl row_size ?_)
    |(refine wpList_load_mid rfl 93 _ rfl w.heap.size 0 rfl [.int .u32 0,.slice none 0 0] _ (row_range HX4.out) Tryz.underlying93 rfl row_size ?_)
    |(go_at_call 190;refine(HF.out _ HB1.out).mono ?_;rintro r w2 ⟨rfl,hb⟩;have HX2:=iH ((hb.block _ (by have:=HS1.out;omega)).trans HX1.out);have HY2:=iH ((hb.block _ (by have:=HS1.out;omega)).trans HY1.out);have HB2:=iH (tW HB1.out hb);have HS2:Hid (w.heap.size+2<=w2.heap.size):=(by show _<=_;have:=hb.size;have:=HS1.out;omega);clear hb)
    |(refine st_agg rfl 186 _ _ rfl w2.heap.size (plc (none,none)) rfl rfl 186 (plc (none,none)) (heap_alloc_last w2 _) pl_size rfl (plc_one _) ?_;intro w3 h3 k3;have HP3:=iH h3;have hbb:Below w2.heap.size w2 w3:=(Below.newly' w2 _).trans (k3.below (Nat.le_refl _));have HX3:=iH ((hbb.block _ (by have:=HS2.out;omega)).trans HX2.out);have HY3:=iH ((hbb.block _ (by have:=HS2.out;omega)).trans HY2.out);have HB3:=iH (tW HB2.out hbb);have HS3:Hid (w2.heap.size<w3.heap.size):=(gZ h3);have HX4:=HX3;obtain⟨X,hX⟩:∃X,X=w2.heap.size:=⟨_,rfl⟩;rw[<-hX]at HP3 HS3 ⊢;have HXX:Hid (w.heap.size+2<=X):=(by show _<=_;have:=HS2.out;omega);clear h3 k3 hbb hX)
    |(go_at_call 191;refine(HLN.out _).mono ?_;rintro r w5 ⟨rfl,hb⟩;have HP5:=iH ((hb.block _ HS3.out).trans HP3.out);have HX5:=iH ((hb.block _ (by have:=HS3.out;have:=HXX.out;omega)).trans HX3.out);have HY5:=iH ((hb.block _ (by have:=HS3.out;have:=HXX.out;omega)).trans HY3.out);have HB5:=iH (tW HB3.out hb);have cp5:w5.cell? ⟨X,0,none⟩=some (.pointer none):=cell_in HP5.out rfl;clear hb)
    |(refine ld_if (by rfl) 186 _ rfl X rfl 186 _ _ _ HP5.out Tryz.underlying186 rfl pl_size ?_)
    |(refine st_agg rfl 186 _ _ rfl (w.heap.size+1) (plc (none,some w.heap.size)) rfl rfl 186 _ HY5.out pl_size rfl (plc_one (none,some w.heap.size)) ?_;intro w6 h6 k6))
   exact bodyPost_ret (results_cell_row rfl _ _ (w.heap.size+1) 186 _ (0,0) _ rfl h6 Tryz.underlying186 rfl pl_size) rfl ⟨(none,some w.heap.size),rfl,place_more HH.out (HB5.out.trans (k6.below (by omega))) (k6.other HX5.out (by omega)),HB5.out.trans (k6.below (by omega))⟩
theorem hm_place_s (hs:ByteArray->Nat) (f:Nat):PlaceOk hs (f+1):=by
 intro S w L c h hne hT;have hh:=h;obtain⟨b0,v0,R,rfl,hrow,hpl⟩:=h.row;obtain⟨bb,rfl⟩:∃bb:Nat,b0=.int .u32 (bb:Int):=by obtain⟨v',e,_⟩:=hrow;simp only[Array.mk.injEq,List.cons.injEq]at e;exact⟨_,e.1⟩
 obtain⟨va,vn,vc,rfl⟩:∃a n c,v0=.slice a n c:=by obtain⟨a,n,e⟩:=hrow.shape;simp only[Array.mk.injEq,List.cons.injEq]at e;exact⟨_,_,_,e.2.1⟩
 have HF:=iH (fun W (hb:Below w.heap.size w W)=>pr_First W R _ (hrow.later hb) (hT.below hb));have HLN:=iH (fun W (hb:Below w.heap.size w W)=>pr_Len W R _ (hrow.later hb));obtain⟨w1,hw1⟩:∃w1,(w.alloc (.cells #[.int .u32 (bb:Int),.slice va vn vc,.slice none 0 0] 96)).alloc (.cells #[.pointer none,.pointer none] 186)=w1:=⟨_,rfl⟩
 obtain⟨hb1,hx1,hy1,hs1⟩:=two_newG hw1;have HX1:=iH hx1;have HY1:=iH hy1;have HB1:=iH hb1;have HS1:=iH hs1;have ca2:w1.cell? ⟨w.heap.size,2,none⟩=some (.slice none 0 0):=cell_in hx1 rfl
 match L,hne,hh,hpl with
 |[e],_,hh,hpl=>
  obtain⟨b,he,hall⟩:=row_one hpl;have hf0:firstG R=((chunkN (hs e.1) ((12-f:Nat):Int):Int),(some b,none),true):=by unfold firstG;rw[hall]
  have hc0:cntG R 32=1:=by rw[<-all_lenG,hall];rfl
  rw[hf0]at HF;rw[hc0]at HLN;have HE:=iH he;clear hh hpl hx1 hy1 hb1 hs1 hrow hall hf0 hc0 he h;go_enter Tryz.func179,Tryz.ntmps179;go_upto_region 1 with fail
  clear hw1;go_wp2_with (first
   |(refine wpList_load_mid rfl 93 _ rfl w.heap.size 0 rfl [.int .u32 (bb:Int),.slice va vn vc] _ (row_range HX1.out) Tryz.underlying93 rfl row_size ?_)
   |(refine wpList_load_mid rfl 93 _ rfl w.heap.size 0 rfl [.int .u32 (bb:Int),.slice va vn vc] _ (row_range HX4.out) Tryz.underlying93 rfl row_size ?_)
   |(go_at_call 190;refine(HF.out _ HB1.out).mono ?_;rintro r w2 ⟨rfl,hb⟩;have HX2:=iH ((hb.block _ (by have:=HS1.out;omega)).trans HX1.out);have HY2:=iH ((hb.block _ (by have:=HS1.out;omega)).trans HY1.out);have HB2:=iH (tW HB1.out hb);have HS2:Hid (w.heap.size+2<=w2.heap.size):=(by show _<=_;have:=hb.size;have:=HS1.out;omega);clear hb)
   |(refine st_agg rfl 186 _ _ rfl w2.heap.size (plc (some b,none)) rfl rfl 186 (plc (none,none)) (heap_alloc_last w2 _) pl_size rfl (plc_one _) ?_;intro w3 h3 k3;have HP3:=iH h3;have hbb:Below w2.heap.size w2 w3:=(Below.newly' w2 _).trans (k3.below (Nat.le_refl _));have HX3:=iH ((hbb.block _ (by have:=HS2.out;omega)).trans HX2.out);have HY3:=iH ((hbb.block _ (by have:=HS2.out;omega)).trans HY2.out);have HB3:=iH (tW HB2.out hbb);have HS3:Hid (w2.heap.size<w3.heap.size):=(gZ h3);have HX4:=HX3;obtain⟨X,hX⟩:∃X,X=w2.heap.size:=⟨_,rfl⟩;rw[<-hX]at HP3 HS3 ⊢;have HXX:Hid (w.heap.size+2<=X):=(by show _<=_;have:=HS2.out;omega);clear h3 k3 hbb hX)
   |(go_at_call 191;refine(HLN.out _ (HB3.out)).mono ?_;rintro r w5 ⟨rfl,hb⟩;have HP5:=iH ((hb.block _ HS3.out).trans HP3.out);have HX5:=iH ((hb.block _ (by have:=HS3.out;have:=HXX.out;omega)).trans HX3.out);have HY5:=iH ((hb.block _ (by have:=HS3.out;have:=HXX.out;omega)).trans HY3.out);have HB5:=iH (tW HB3.out hb);have cp5:w5.cell? ⟨X,0,none⟩=some (.pointer (some ⟨b,0,none⟩)):=cell_in HP5.out rfl;clear hb)
   |(refine ld_if (by rfl) 186 _ rfl X rfl 186 _ _ _ HP5.out Tryz.underlying186 rfl pl_size ?_)
   |(refine st_agg rfl 186 _ _ rfl (w.heap.size+1) (plc (some b,none)) rfl rfl 186 _ HY5.out pl_size rfl (plc_one (some b,none)) ?_;intro w6 h6 k6))
  exact bodyPost_ret (results_cell_row rfl _ _ (w.heap.size+1) 186 _ (0,0) _ rfl h6 Tryz.underlying186 rfl pl_size) rfl ⟨(some b,none),rfl,⟨b,rfl,(HE.out.later (HB5.out.trans (k6.below (by omega)))).weak fun _ h=>.inl h⟩,HB5.out.trans (k6.below (by omega))⟩
 |x::y::M,_,hh,hpl=>
  have hmore:=row_more rfl hpl;have HH:=iH hh;obtain⟨⟨fi,⟨fo,fm⟩,fb⟩,hf0⟩:∃z,z=firstG R:=⟨_,rfl⟩
  rw[<-hf0]at HF hmore;simp only at HF hmore;obtain⟨n,hn⟩:∃n,n=cntG R 32:=⟨_,rfl⟩
  rw[<-hn]at HLN hmore;clear hh hpl hx1 hy1 hb1 hs1 hrow hf0 hn h;by_cases h1:n=1
  ·obtain rfl:=hmore h1
   subst h1;clear hmore;go_enter Tryz.func179,Tryz.ntmps179;go_upto_region 1 with fail
   clear hw1;go_wp2_with (first
    |(refine wpList_load_mid rfl 93 _ rfl w.heap.size 0 rfl [.int .u32 (bb:Int),.slice va vn vc] _ (row_range HX1.out) Tryz.underlying93 rfl row_size ?_)
    |(refine wpList_load_mid rfl 93 _ rfl w.heap.size 0 rfl [.int .u32 (bb:Int),.slice va vn vc] _ (row_range HX4.out) Tryz.underlying93 rfl row_size ?_)
    |(go_at_call 190;refine(HF.out _ HB1.out).mono ?_;rintro r w2 ⟨rfl,hb⟩;have HX2:=iH ((hb.block _ (by have:=HS1.out;omega)).trans HX1.out);have HY2:=iH ((hb.block _ (by have:=HS1.out;omega)).trans HY1.out);have HB2:=iH (tW HB1.out hb);have HS2:Hid (w.heap.size+2<=w2.heap.size):=(by show _<=_;have:=hb.size;have:=HS1.out;omega);clear hb)
    |(refine st_agg rfl 186 _ _ rfl w2.heap.size (plc (none,fm)) rfl rfl 186 (plc (none,none)) (heap_alloc_last w2 _) pl_size rfl (plc_one _) ?_;intro w3 h3 k3;have HP3:=iH h3;have hbb:Below w2.heap.size w2 w3:=(Below.newly' w2 _).trans (k3.below (Nat.le_refl _));have HX3:=iH ((hbb.block _ (by have:=HS2.out;omega)).trans HX2.out);have HY3:=iH ((hbb.block _ (by have:=HS2.out;omega)).trans HY2.out);have HB3:=iH (tW HB2.out hbb);have HS3:Hid (w2.heap.size<w3.heap.size):=(gZ h3);have HX4:=HX3;obtain⟨X,hX⟩:∃X,X=w2.heap.size:=⟨_,rfl⟩;rw[<-hX]at HP3 HS3 ⊢;have HXX:Hid (w.heap.size+2<=X):=(by show _<=_;have:=HS2.out;omega);clear h3 k3 hbb hX)
    |(go_at_call 191;refine(HLN.out _ (HB3.out)).mono ?_;rintro r w5 ⟨rfl,hb⟩;have HP5:=iH ((hb.block _ HS3.out).trans HP3.out);have HX5:=iH ((hb.block _ (by have:=HS3.out;have:=HXX.out;omega)).trans HX3.out);have HY5:=iH ((hb.block _ (by have:=HS3.out;have:=HXX.out;omega)).trans HY3.out);have HB5:=iH (tW HB3.out hb);have cp5:w5.cell? ⟨X,0,none⟩=some (.pointer none):=cell_in HP5.out rfl;clear hb)
    |(refine ld_if (by rfl) 186 _ rfl X rfl 186 _ _ _ HP5.out Tryz.underlying186 rfl pl_size ?_)
    |(refine st_agg rfl 186 _ _ rfl (w.heap.size+1) (plc (none,some w.heap.size)) rfl rfl 186 _ HY5.out pl_size rfl (plc_one (none,some w.heap.size)) ?_;intro w6 h6 k6))
   exact bodyPost_ret (results_cell_row rfl _ _ (w.heap.size+1) 186 _ (0,0) _ rfl h6 Tryz.underlying186 rfl pl_size) rfl ⟨(none,some w.heap.size),rfl,place_more HH.out (HB5.out.trans (k6.below (by omega))) (k6.other HX5.out (by omega)),HB5.out.trans (k6.below (by omega))⟩
  ·have hn1:((n:Int)==1)=false:=beq_eq_false_iff_ne.2 (by omega)
   clear hmore h1;go_enter Tryz.func179,Tryz.ntmps179;go_upto_region 1 with fail
   clear hw1;go_wp2_with (first
    |(refine wpList_load_mid rfl 93 _ rfl w.heap.size 0 rfl [.int .u32 (bb:Int),.slice va vn vc] _ (row_range HX1.out) Tryz.underlying93 rfl row_size ?_)
    |(refine wpList_load_mid rfl 93 _ rfl w.heap.size 0 rfl [.int .u32 (bb:Int),.slice va vn vc] _ (row_range HX4.out) Tryz.underlying93 rfl row_size ?_)
    |(go_at_call 190;refine(HF.out _ HB1.out).mono ?_;rintro r w2 ⟨rfl,hb⟩;have HX2:=iH ((hb.block _ (by have:=HS1.out;omega)).trans HX1.out);have HY2:=iH ((hb.block _ (by have:=HS1.out;omega)).trans HY1.out);have HB2:=iH (tW HB1.out hb);have HS2:Hid (w.heap.size+2<=w2.heap.size):=(by show _<=_;have:=hb.size;have:=HS1.out;omega);clear hb)
    |(refine st_agg rfl 186 _ _ rfl w2.heap.size (plc (fo,fm)) rfl rfl 186 (plc (none,none)) (heap_alloc_last w2 _) pl_size rfl (plc_one _) ?_;intro w3 h3 k3;have HP3:=iH h3;have hbb:Below w2.heap.size w2 w3:=(Below.newly' w2 _).trans (k3.below (Nat.le_refl _));have HX3:=iH ((hbb.block _ (by have:=HS2.out;omega)).trans HX2.out);have HY3:=iH ((hbb.block _ (by have:=HS2.out;omega)).trans HY2.out);have HB3:=iH (tW HB2.out hbb);have HS3:Hid (w2.heap.size<w3.heap.size):=(gZ h3);have HX4:=HX3;obtain⟨X,hX⟩:∃X,X=w2.heap.size:=⟨_,rfl⟩;rw[<-hX]at HP3 HS3 ⊢;have HXX:Hid (w.heap.size+2<=X):=(by show _<=_;have:=HS2.out;omega);clear h3 k3 hbb hX)
    |(go_at_call 191;refine(HLN.out _ (HB3.out)).mono ?_;rintro r w5 ⟨rfl,hb⟩;have HP5:=iH ((hb.block _ HS3.out).trans HP3.out);have HX5:=iH ((hb.block _ (by have:=HS3.out;have:=HXX.out;omega)).trans HX3.out);have HY5:=iH ((hb.block _ (by have:=HS3.out;have:=HXX.out;omega)).trans HY3.out);have HB5:=iH (tW HB3.out hb);have cp5:w5.cell? ⟨X,0,none⟩=some (pv fo):=cell_in HP5.out rfl;clear hb)
    |(refine ld_if (by rfl) 186 _ rfl X rfl 186 _ _ _ HP5.out Tryz.underlying186 rfl pl_size ?_)
    |(refine st_agg rfl 186 _ _ rfl (w.heap.size+1) (plc (none,some w.heap.size)) rfl rfl 186 _ HY5.out pl_size rfl (plc_one (none,some w.heap.size)) ?_;intro w6 h6 k6))
   exact bodyPost_ret (results_cell_row rfl _ _ (w.heap.size+1) 186 _ (0,0) _ rfl h6 Tryz.underlying186 rfl pl_size) rfl ⟨(none,some w.heap.size),rfl,place_more HH.out (HB5.out.trans (k6.below (by omega))) (k6.other HX5.out (by omega)),HB5.out.trans (k6.below (by omega))⟩
theorem hm_place (hs:ByteArray->Nat):∀f,PlaceOk hs f
 |0=>hm_place_0 hs
 |f+1=>hm_place_s hs f
end Go.Proofs.YtengibnpebfblaaGreatDoor
namespace Go.Proofs.YtengibnpebfblaaGreatDoor
open Go.RowKit
theorem ep_elem (w:World):(sizeOf (Tryz.prog.elem 94)).run Tryz.prog w=.ok 1 w:=by
 have e:Tryz.prog.elem 94=161:=by kernel_rfl
 rw[e];obtain⟨i,hi,_,h1,_⟩:=info_parts eptr_info;simp[sizeOf,typeInfo,hi,h1]
theorem ep_under:Tryz.prog.underlying 94=some (.slice (Tryz.prog.elem 94)):=by kernel_rfl
def WithOk (hs:ByteArray->Nat) (f:Nat):Prop:=∀(S:Nat->Prop) (w:World) (L:List Ent) (c:Array Value) (b:Nat) (k:ByteArray) (x:Cel),NodeAt hs S f w L c->Rise L->L.length<=50000->EntAt hs S w b (k,x)->Tab6 w->
  Calls Tryz.prog 137 #[.agg c,.int .i64 ((13-f:Nat):Int),pv (some b)] w fun r w'=>∃c',r=.returned (.agg c')/\NodeAt hs (fun g=>S g\/w.heap.size<=g) f w' (insE L k x) c'/\Below w.heap.size w w'
def PWithOk (hs:ByteArray->Nat) (f:Nat):Prop:=∀(S:Nat->Prop) (w:World) (L:List Ent) (p:Option Pl) (b:Nat) (k:ByteArray) (x:Cel),PlAt hs S w (NodeAt hs S f w) L p->Rise L->L.length<=50000->EntAt hs S w b (k,x)->Tab6 w->
  Calls Tryz.prog 151 #[.agg (plc (p.getD (none,none))),.int .i64 ((13-f:Nat):Int),pv (some b)] w fun r w'=>∃p',r=.returned (.agg (plc p'))/\PlAt hs (fun g=>S g\/w.heap.size<=g) w' (NodeAt hs (fun g=>S g\/w.heap.size<=g) f w') (insE L k x) (some p')/\Below w.heap.size w w'
theorem en_lit {W:World} {g b:Nat} (h:W.heap[g]? =some (.cells #[.pointer (some ⟨b,0,none⟩)] 161 (0,0))):CutAt (fun _=>True) W 1 (.slice (some ⟨g,0,none⟩) 1 1) (en enE [b]) 1:=
 ⟨_,1,rfl,Nat.le_refl _,rfl,.inr ⟨g,0,rfl,trivial,(gZ h),fun j u hu=>by
  rw[Nat.zero_add];refine cell_in h ?_;simpa[en,enE,pv]using hu⟩⟩
theorem list_node {hs:ByteArray->Nat} {S:Nat->Prop} {w w':World} {v:Value} {qs:List (Nat×Ent)} (h0:0<qs.length) (h:w'.ownsRow w.heap.size 161 1 v qs.length (en enE (qs.map (·.1)))) (he:∀q∈qs,EntAt hs S w' q.1 q.2):
  NodeAt hs (fun g=>S g\/w.heap.size<=g) 0 w' (qs.map (·.2)) #[.int .u32 0,.slice none 0 0,v]:=by
 refine⟨v,qs,rfl,?_,rfl,fun q hq=>(he q hq).weak fun _ h=>.inl h⟩;have hz:=ownsRow_headZ h h0;rw[List.length_map];obtain⟨h1,h2⟩:=hz;refine⟨h1,h2.imp_right ?_⟩;rintro⟨a1,g,c,cur,a2,a3,a4,a5,a6⟩;exact⟨a1,g,c,cur,a2,a3,.inr a4,a5,a6⟩
theorem cc_three (w:World) (B:Nat) (v1 v2 v3:Value) (p1 p2 p3:List Nat) (h1:w.cell? ⟨B,0,none⟩=some v1) (h2:w.cell? ⟨B,1,none⟩=some v2) (h3:w.cell? ⟨B,2,none⟩=some v3)
  (c1:CutAt (fun _=>True) w 1 v1 (en enE p1) p1.length) (c2:CutAt (fun _=>True) w 1 v2 (en enE p2) p2.length) (c3:CutAt (fun _=>True) w 1 v3 (en enE p3) p3.length) (hN:(p1++(p2++p3)).length<=100000) (h0:0<(p1++(p2++p3)).length):
  Calls Tryz.prog 149 #[.slice (some ⟨B,0,none⟩) 3 3] w fun e w'=>∃g c,e=.returned (.slice (some ⟨g,0,none⟩) (p1++(p2++p3)).length c)/\w'.ownsRow w.heap.size 161 1 (.slice (some ⟨g,0,none⟩) (p1++(p2++p3)).length c) (p1++(p2++p3)).length (en enE (p1++(p2++p3)))/\Below w.heap.size w w':=by
 have e:catE [(v1,p1),(v2,p2),(v3,p3)] 3=p1++(p2++p3):=by simp[catE]
 have h:=cc_ep enE_one w (S:=fun _=>True) B [(v1,p1),(v2,p2),(v3,p3)] (fun k hk=>by
  match k,hk with
  |0,_=>exact h1
  |1,_=>exact h2
  |2,_=>exact h3) (fun q hq=>by
  simp only[List.mem_cons,List.not_mem_nil,or_false]at hq;rcases hq with rfl|rfl|rfl
  ·exact c1
  ·exact c2
  ·exact c3) (by show(catE _ 3).length<=_;rw[e];exact hN) (by simp)
 refine h.mono ?_;rintro r w' ⟨v,rfl,ho,hb⟩;change World.ownsRow _ _ _ _ v (catE _ 3).length (en enE (catE _ 3))at ho
 rw[e]at ho;have ho':=ho;obtain⟨_,⟨_,hz⟩|⟨g,cap,cur,rfl,_⟩⟩:=ho'
 ·omega
 ·exact⟨g,cap,rfl,ho,hb⟩
theorem CutAt.all {S:Nat->Prop} {W:World} {s n:Nat} {v:Value} {cs:List Value} (h:CutAt S W s v cs n):CutAt (fun _=>True) W s v cs n:=h.weak fun _ _=>trivial
theorem ins_pairs {L:List Ent} {k:ByteArray} {x:Cel} {qs rest:List (Nat×Ent)} {N b:Nat} (h1:(qs.take N).map (·.2)=belE L k) (h2:rest.map (·.2)=abvE L k):(qs.take N++((b,(k,x))::rest)).map (·.2)=insE L k x:=by
 rw[List.map_append,List.map_cons,h1,h2];rfl
theorem hm_with_0 (hs:ByteArray->Nat):WithOk hs 0:=by
 intro S w L c b k x h hL hn he hT;have hh:=h;obtain⟨v,qs,rfl,h2,hq,h4⟩:=h;rw[show(((13-0:Nat):Nat):Int)=13 from rfl];have hlq:L.length=qs.length:=by rw[hq,List.length_map]
 rw[hlq]at h2;obtain⟨va,vc,rfl,hvc⟩:=h2.head.shape;obtain⟨w1,hw1⟩:∃w1,(w.alloc (.cells #[.int .u32 0,.slice none 0 0,.slice va qs.length vc] 96)).alloc (.cells #[.int .u32 0,.slice none 0 0,.slice none 0 0] 96)=w1:=⟨_,rfl⟩
 obtain⟨hb1,hx1,hy1,hs1⟩:=two_newG hw1;have HX1:=iH hx1;have HY1:=iH hy1;have HB1:=iH hb1;have HS1:=iH hs1;have HE:=iH he;have HSE:=iH (fun W (hb:Below w.heap.size w W)=>hm_search W L _ k (hh.later hb) hL (by omega));obtain⟨N,hN⟩:∃N,N=(belE L k).length:=⟨_,rfl⟩
 rw[<-hN]at HSE;have hNq:N<=qs.length:=by rw[hN,<-hlq];exact List.length_filter_le _ _
 have hbel:(qs.take N).map (·.2)=belE L k:=by rw[List.map_take,<-hq,hN];exact cut_take hL k
 have hdrp:(qs.drop N).map (·.2)=atE L k++abvE L k:=by rw[List.map_drop,<-hq,hN];exact cut_drop hL k
 obtain⟨a1,c1,hs1a,hr1⟩:=cut_h (P:=Tryz.prog) 94 ep_under ep_elem h2.head.cut hNq;obtain⟨a3,c3,hs3,hr3⟩:=cut_l (P:=Tryz.prog) 94 ep_under ep_elem h2.head.cut hNq;rw[en_take enE_len]at hs1a;rw[en_drop enE_len]at hs3;have HC1:=iH hs1a;have HC3:=iH hs3;have HH4:=iH h4;have HBEL:=iH hbel;have HDRP:=iH hdrp;have HLQ:=iH (And.intro hlq hn);have HNQ:=iH hNq;have HHQ:=iH hq;obtain⟨is,his⟩:∃is,is=(getE L k).isSome:=⟨_,rfl⟩
 rw[<-his]at HSE;have HIS:=iH his;have cb0:w.cell? ⟨b,0,none⟩=some (.string k):=by
  obtain⟨_,fr,h⟩:=he;exact cell_in h rfl
 have HCB:=iH cb0;have HBL:=iH he.lt;clear hh h2 hq h4 hx1 hy1 hb1 hs1 he hL hn hlq hNq hbel hdrp hs1a hs3 his cb0 hN hT;unfold pv;go_enter Tryz.func137,Tryz.ntmps137;go_upto_region 2 with fail
 clear hw1;have HKS:Hid (∀V,Below w1.heap.size w1 V->(V.heap[w.heap.size]? =some (.cells #[.int .u32 0,.slice none 0 0,.slice va qs.length vc] 96 (0,0))/\V.cell? ⟨b,0,none⟩=some (.string k))):=fun V hV=>
  ⟨(hV.block _ (by have:=HS1.out;omega)).trans HX1.out,((tW HB1.out hV).cell (p:=⟨b,0,none⟩) HBL.out).trans HCB.out⟩
 have HW:Hid (Below w1.heap.size w1 w1.drew):=drawn_below w1;refine wp_region_T (S:=(fun V=>V.heap[w.heap.size]? =some (.cells #[.int .u32 0,.slice none 0 0,.slice va qs.length vc] 96 (0,0))/\V.cell? ⟨b,0,none⟩=some (.string k))) [] (by kernel_rfl) (by exact HKS.out _ HW.out) (fun hHeld=> ?_);refine tyA 0 16 (hy:=yieldsIf_load_row (by rfl) 96 _ rfl w.heap.size rfl #[.int .u32 0,.slice none 0 0,.slice va qs.length vc] 96 (0,0) _ (fun w hw=>hw.1) Tryz.underlying96 rfl (by exact nd_size)) (h:=?_);refine tkA 1 17 (h:=?_);(try simp only[pq]);refine tkA 2 18 (h:=?_);refine tkA 3 19 (h:=?_);(try simp only[pq]);refine tkA 4 20 (h:=?_);(try simp only[pq]);refine tkO 5 (some 21) (h:=fun K hK=> ?_);go_simp;go_at_call 130;refine(HSE.out _ (tW HB1.out HW.out)).mono ?_;rintro r w2 ⟨rfl,hb⟩;replace HW:=iH (tW HW.out hb);clear hb;dsimp only;refine hK.out _ _ (by exact HKS.out _ HW.out) (fun hHeld=> ?_);clear hK K;(try simp only[pq]);refine tkA 6 15 (h:=?_);refine tkA 7 22 (h:=?_);(try simp only[pq]);refine tkA 8 23 (h:=?_);refine tkA 9 7 (h:=?_);(try simp only[pq]);refine tkA 10 8 (h:=?_);(try simp only[pq]);refine wpAnyT_done (by kernel_rfl) ?_ _;have HXW:=iH (HKS.out _ HW.out).1;have HYW:=iH ((HW.out.block _ (by have:=HS1.out;omega)).trans HY1.out);have cx2:w2.cell? ⟨w.heap.size,2,none⟩=some (.slice va qs.length vc):=cell_in HXW.out rfl;have HBW:=iH (tW HB1.out HW.out);have HSW:Hid (w.heap.size+2<=w2.heap.size):=by show _<=_;have:=HW.out.size;have:=HS1.out;omega
 clear HKS HW hHeld;cases is with
 |false=>
  have HREST:Hid ((qs.drop N).map (·.2)=abvE L k):=by
   show _=_;rw[HDRP.out,at_none (by simpa using HIS.out.symm),List.nil_append]
  have HQ1:Hid ((qs.map (·.1)).take N=(qs.take N).map (·.1)):=List.map_take.symm;have HQ3:Hid ((qs.map (·.1)).drop N=(qs.drop N).map (·.1)):=List.map_drop.symm;have HT:Hid ((qs.take N++((b,(k,x))::(qs.drop N))).length<=60000/\((qs.take N).map (·.1)).length=N/\((qs.drop N).map (·.1)).length=qs.length-N):=by
   show _/\_/\_;have h1:=HNQ.out;have h2:=HLQ.out;refine⟨?_,?_,?_⟩
   ·simp
    omega
   ·simp
    omega
   ·simp
    try omega
  go_wp2_with fail
  obtain⟨W3,hW3⟩:∃W3,(w2.alloc (.cells #[.pointer (some ⟨b,0,none⟩)] 161)).alloc (.cells #[.slice a1 N c1,.slice (some ⟨w2.heap.size,0,none⟩) 1 1,.slice a3 (qs.length-N) c3] 94)=W3:=⟨_,rfl⟩
  obtain⟨hb3,hx3,hy3,hs3⟩:=two_newG hW3;rw[hW3];refine(cc_three W3 (w2.heap.size+1) (.slice a1 N c1) (.slice (some ⟨w2.heap.size,0,none⟩) 1 1) (.slice a3 (qs.length-N) c3) ((qs.take N).map (·.1)) [b] ((qs.drop N).map (·.1)) (cell_in hy3 rfl) (cell_in hy3 rfl) (cell_in hy3 rfl) (by rw[HT.out.2.1,<-HQ1.out];exact((HC1.out.later HBW.out).later hb3).all) (en_lit hx3) (by rw[HT.out.2.2];exact(by rw[<-HQ3.out];exact((HC3.out.later HBW.out).later hb3).all)) (by have:=HT.out.1;simp at this ⊢;omega) (by rw[List.length_append,List.length_append,List.length_singleton];omega)).mono ?_;rintro r w5 ⟨g5,c5,hr,ho5,hb5⟩;obtain⟨n5,hn5⟩:∃n5,n5=((qs.take N).map (·.1)++([b]++(qs.drop N).map (·.1))).length:=⟨_,rfl⟩
  rw[<-hn5]at hr ho5;subst hr;have HN5:=iH hn5;have HO5:=iH ho5;have HB5:=iH (HBW.out.trans ((hb3.trans (hb5.mono (by omega))).mono HBW.out.size));have HY5:=iH ((hb5.block _ (by have:=HSW.out;omega)).trans ((hb3.block _ (by have:=HSW.out;omega)).trans HYW.out));have HW3:Hid (w.heap.size+2<=W3.heap.size):=(by show _<=_;have:=HSW.out;omega)
  clear hb3 hx3 hy3 hs3 hW3 ho5 hb5 hn5;go_wp2_with (refine st_agg rfl 96 _ _ rfl (w.heap.size+1) #[.int .u32 0,.slice none 0 0,.slice (some ⟨g5,0,none⟩) n5 c5] rfl rfl 96 _ HY5.out nd_size rfl (by simp[Value.oneCell']) ?_;intro w6 h6 k6)
  refine bodyPost_ret (results_cell_row rfl _ _ (w.heap.size+1) 96 _ (0,0) _ rfl h6 Tryz.underlying96 rfl nd_size) rfl ⟨_,rfl,?_,HB5.out.trans (k6.below (by omega))⟩;have ho6:=HO5.out;have e:(qs.take N).map (·.1)++([b]++(qs.drop N).map (·.1))=(qs.take N++((b,(k,x))::(qs.drop N))).map (·.1):=by rw[List.map_append,List.map_cons];rfl
  have hn5:=HN5.out;rw[e,List.length_map]at hn5;rw[e,hn5]at ho6;rw[hn5];rw[<-ins_pairs (b:=b) (x:=x) HBEL.out HREST.out];have hnode:=list_node (hs:=hs) (S:=fun g=>S g/\g<w.heap.size) (w:=W3) (w':=w5) (by rw[List.length_append,List.length_cons];omega) ho6 (fun q hq=>by
   rcases List.mem_append.1 hq with hq|hq
   ·exact(HH4.out q (List.mem_of_mem_take hq)).old.later HB5.out
   ·rcases List.mem_cons.1 hq with rfl|hq
    ·exact HE.out.old.later HB5.out
    ·exact(HH4.out q (List.mem_of_mem_drop hq)).old.later HB5.out)
  have hW3:=HW3.out;exact(hnode.kp (Kp.only k6 (fun h=>by omega))).weak fun g hg=>by
   rcases hg with hg|hg
   ·exact .inl hg.1
   ·exact .inr (by omega)
 |true=>
  have hlt:N+1<=qs.length:=by
   have h1:=congrArg List.length HDRP.out;obtain⟨y,hy⟩:=Option.isSome_iff_exists.1 HIS.out.symm;rw[at_some hy]at h1;simp at h1;omega
  obtain⟨a4,c4,hs4,hr4⟩:=cut_l (P:=Tryz.prog) 94 ep_under ep_elem HC3.out (lo:=1) (by omega);rw[en_drop enE_len,List.drop_drop]at hs4;have hr4':∀w,(Instr.slice 94 (.slice a3 (qs.length-N) c3) (some (.int .i64 1)) none none).run Tryz.prog w=.ok (.slice a4 (qs.length-N-1) c4) w:=hr4
  have HC4:=iH hs4;have HREST:Hid ((qs.drop (N+1)).map (·.2)=abvE L k):=by
   show _=_;obtain⟨y,hy⟩:=Option.isSome_iff_exists.1 HIS.out.symm;have h1:=HDRP.out;rw[at_some hy]at h1;rw[<-List.drop_drop,List.map_drop,h1];rfl
  have HQ1:Hid ((qs.map (·.1)).take N=(qs.take N).map (·.1)):=List.map_take.symm;have HQ3:Hid ((qs.map (·.1)).drop (N+1)=(qs.drop (N+1)).map (·.1)):=List.map_drop.symm;have HLTT:=iH hlt;clear hs4 hr4 hlt;have HT:Hid ((qs.take N++((b,(k,x))::(qs.drop (N+1)))).length<=60000/\((qs.take N).map (·.1)).length=N/\((qs.drop (N+1)).map (·.1)).length=qs.length-N-1):=by
   show _/\_/\_;have h1:=HNQ.out;have h3:=HLTT.out;have h2:=HLQ.out;refine⟨?_,?_,?_⟩
   ·simp
    omega
   ·simp
    omega
   ·simp
    try omega
  go_wp2_with fail
  obtain⟨W3,hW3⟩:∃W3,(w2.alloc (.cells #[.pointer (some ⟨b,0,none⟩)] 161)).alloc (.cells #[.slice a1 N c1,.slice (some ⟨w2.heap.size,0,none⟩) 1 1,.slice a4 (qs.length-N-1) c4] 94)=W3:=⟨_,rfl⟩
  obtain⟨hb3,hx3,hy3,hs3⟩:=two_newG hW3;rw[hW3];refine(cc_three W3 (w2.heap.size+1) (.slice a1 N c1) (.slice (some ⟨w2.heap.size,0,none⟩) 1 1) (.slice a4 (qs.length-N-1) c4) ((qs.take N).map (·.1)) [b] ((qs.drop (N+1)).map (·.1)) (cell_in hy3 rfl) (cell_in hy3 rfl) (cell_in hy3 rfl) (by rw[HT.out.2.1,<-HQ1.out];exact((HC1.out.later HBW.out).later hb3).all) (en_lit hx3) (by rw[HT.out.2.2];exact(by rw[<-HQ3.out];exact((HC4.out.later HBW.out).later hb3).all)) (by have:=HT.out.1;simp at this ⊢;omega) (by rw[List.length_append,List.length_append,List.length_singleton];omega)).mono ?_;rintro r w5 ⟨g5,c5,hr,ho5,hb5⟩;obtain⟨n5,hn5⟩:∃n5,n5=((qs.take N).map (·.1)++([b]++(qs.drop (N+1)).map (·.1))).length:=⟨_,rfl⟩
  rw[<-hn5]at hr ho5;subst hr;have HN5:=iH hn5;have HO5:=iH ho5;have HB5:=iH (HBW.out.trans ((hb3.trans (hb5.mono (by omega))).mono HBW.out.size));have HY5:=iH ((hb5.block _ (by have:=HSW.out;omega)).trans ((hb3.block _ (by have:=HSW.out;omega)).trans HYW.out));have HW3:Hid (w.heap.size+2<=W3.heap.size):=(by show _<=_;have:=HSW.out;omega)
  clear hb3 hx3 hy3 hs3 hW3 ho5 hb5 hn5;go_wp2_with (refine st_agg rfl 96 _ _ rfl (w.heap.size+1) #[.int .u32 0,.slice none 0 0,.slice (some ⟨g5,0,none⟩) n5 c5] rfl rfl 96 _ HY5.out nd_size rfl (by simp[Value.oneCell']) ?_;intro w6 h6 k6)
  refine bodyPost_ret (results_cell_row rfl _ _ (w.heap.size+1) 96 _ (0,0) _ rfl h6 Tryz.underlying96 rfl nd_size) rfl ⟨_,rfl,?_,HB5.out.trans (k6.below (by omega))⟩;have ho6:=HO5.out;have e:(qs.take N).map (·.1)++([b]++(qs.drop (N+1)).map (·.1))=(qs.take N++((b,(k,x))::(qs.drop (N+1)))).map (·.1):=by rw[List.map_append,List.map_cons];rfl
  have hn5:=HN5.out;rw[e,List.length_map]at hn5;rw[e,hn5]at ho6;rw[hn5];rw[<-ins_pairs (b:=b) (x:=x) HBEL.out HREST.out];have hnode:=list_node (hs:=hs) (S:=fun g=>S g/\g<w.heap.size) (w:=W3) (w':=w5) (by rw[List.length_append,List.length_cons];omega) ho6 (fun q hq=>by
   rcases List.mem_append.1 hq with hq|hq
   ·exact(HH4.out q (List.mem_of_mem_take hq)).old.later HB5.out
   ·rcases List.mem_cons.1 hq with rfl|hq
    ·exact HE.out.old.later HB5.out
    ·exact(HH4.out q (List.mem_of_mem_drop hq)).old.later HB5.out)
  have hW3:=HW3.out;exact(hnode.kp (Kp.only k6 (fun h=>by omega))).weak fun g hg=>by
   rcases hg with hg|hg
   ·exact .inl hg.1
   ·exact .inr (by omega)
end Go.Proofs.YtengibnpebfblaaGreatDoor
