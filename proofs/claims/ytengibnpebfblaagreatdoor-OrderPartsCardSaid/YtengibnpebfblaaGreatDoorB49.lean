import Derived.Test.YtengibnpebfblaaGreatDoorB45
set_option maxRecDepth 1000000
set_option maxHeartbeats 8000000
set_option linter.unusedSimpArgs false
namespace Go.Proofs.YtengibnpebfblaaGreatDoor
open Go.RowKit
theorem od_Order (a b:Tr) (x y:Cel) (w:World) (hv:VAt (fun _=>True) w a x) (hu:VAt (fun _=>True) w b y) (ha:ValB a) (hbv:ValB b) (hT:Tab6 w):Calls Tryz.prog 14 #[.agg (celC x),.agg (celC y)] w fun e w'=>e=.returned (.int .i64 (ordT a b))/\Below w.heap.size w w':=by
 obtain⟨w1,hw1⟩:∃w1,(w.alloc (.cells (celC x) 35)).alloc (.cells (celC y) 35)=w1:=⟨_,rfl⟩
 obtain⟨hb1,hx1,hx2,hs1⟩:=two_new hw1;obtain⟨ka,hka⟩:∃k,k=kB a:=⟨_,rfl⟩
 obtain⟨kz,hkz⟩:∃k,k=kB b:=⟨_,rfl⟩
 obtain⟨n,hn⟩:∃n,n=ordT a b:=⟨_,rfl⟩
 have HKA:Hid (∀W,Below w1.heap.size w1 W->Calls Tryz.prog 41 #[.agg (celC x)] W fun e w'=>e=.returned (.string ka)/\Below W.heap.size W w'):=fun W hb=>by rw[hka];exact va_Key W a x ha ((hv.later hb1).later hb) ((hT.below hb1).below hb)
 have HKB:Hid (∀W,Below w1.heap.size w1 W->Calls Tryz.prog 41 #[.agg (celC y)] W fun e w'=>e=.returned (.string kz)/\Below W.heap.size W w'):=fun W hb=>by rw[hkz];exact va_Key W b y hbv ((hu.later hb1).later hb) ((hT.below hb1).below hb)
 have HOR:Hid (∀W,Calls Tryz.prog 40 #[.string ka,.string kz] W fun e w'=>e=.returned (.int .i64 n)/\W=w'):=fun W=>by
  have h:=q_Order ka kz W;rw[hka,hkz,kB_data,kB_data]at h;rw[hn,hka,hkz];exact h
 rw[<-hn];have HB1:=iH hb1;have HKS:Hid (∀V,Below w1.heap.size w1 V->V.heap[w.heap.size]? =some (.cells (celC x) 35 (0,0))/\V.heap[w.heap.size+1]? =some (.cells (celC y) 35 (0,0))):=fun V hb=>⟨kW hb hx1,kW hb hx2⟩
 have HW:Hid (Below w1.heap.size w1 w1.drew):=drawn_below w1;clear hka hkz hn hb1 hx1 hx2 hs1 hv hu ha hbv hT;go_enter Tryz.func14,Tryz.ntmps14;go_upto_region 1 with fail
 clear hw1;refine wp_region_T (S:=(fun V=>V.heap[w.heap.size]? =some (.cells (celC x) 35 (0,0))/\V.heap[w.heap.size+1]? =some (.cells (celC y) 35 (0,0)))) [] (by kernel_rfl) (by exact HKS.out _ HW.out) (fun hHeld=> ?_);refine tyL 0 5 (hy:=yieldsIf_load_row (by rfl) 35 _ rfl w.heap.size rfl (celC x) 35 (0,0) _ (fun w hw=>hw.1) Tryz.underlying35 rfl (by exact val_size)) (h:=?_);refine tyL 2 7 (hy:=yieldsIf_load_row (by rfl) 35 _ rfl (w.heap.size+1) rfl (celC y) 35 (0,0) _ (fun w hw=>hw.2) Tryz.underlying35 rfl (by exact val_size)) (h:=?_);(try simp only[pq]);refine tkO 1 (some 6) (h:=fun K hK=> ?_);go_simp;go_at_call 41;(with_reducible refine(HKA.out _ (by exact HW.out)).mono ?_);rintro r wa ⟨rfl,hb⟩;replace HW:=iH (tW HW.out hb);clear hb;dsimp only;refine hK.out _ _ (by exact HKS.out _ HW.out) (fun hHeld=> ?_);clear hK K;(try simp only[pq]);refine tkO 3 (some 8) (h:=fun K hK=> ?_);go_simp;go_at_call 41;(with_reducible refine(HKB.out _ (by exact HW.out)).mono ?_);rintro r wb ⟨rfl,hb⟩;replace HW:=iH (tW HW.out hb);clear hb;dsimp only;refine hK.out _ _ (by exact HKS.out _ HW.out) (fun hHeld=> ?_);clear hK K;(try simp only[pq]);refine tkO 4 (some 9) (h:=fun K hK=> ?_);go_simp;go_at_call 40;(with_reducible refine(HOR.out _).mono ?_);rintro r wc ⟨rfl,rfl⟩
 skip
 dsimp only;refine hK.out _ _ (by exact HKS.out _ HW.out) (fun hHeld=> ?_);clear hK K;(try simp only[pq]);refine tkL 5 4 (h:=?_);(try simp only[pq]);refine wpAnyT_done (by kernel_rfl) ?_ _;clear hHeld;go_wp2_with fail
 have hb:=tW HB1.out HW.out;go_ret;exact⟨rfl,hb⟩
theorem od_Same (a b:Tr) (x y:Cel) (w:World) (hv:VAt (fun _=>True) w a x) (hu:VAt (fun _=>True) w b y) (ha:ValB a) (hbv:ValB b) (hT:Tab6 w):Calls Tryz.prog 15 #[.agg (celC x),.agg (celC y)] w fun e w'=>e=.returned (.bool (ordT a b==0))/\Below w.heap.size w w':=by
 obtain⟨w1,hw1⟩:∃w1,(w.alloc (.cells (celC x) 35)).alloc (.cells (celC y) 35)=w1:=⟨_,rfl⟩
 obtain⟨hb1,hx1,hx2,hs1⟩:=two_new hw1;have HOR:=iH (fun W (hb:Below w1.heap.size w1 W)=>od_Order a b x y W ((hv.later hb1).later hb) ((hu.later hb1).later hb) ha hbv ((hT.below hb1).below hb));have HB1:=iH hb1;have HX1:=iH hx1;have HX2:=iH hx2;have HW:Hid (Below w1.heap.size w1 w1):=Below.refl _ _;clear hb1 hx1 hx2 hs1 hv hu ha hbv hT;go_enter Tryz.func15,Tryz.ntmps15;go_upto_region 1 with fail
 clear hw1;go_wp2_with (first
  |(refine ld_if rfl 35 _ rfl w.heap.size rfl 35 _ _ _ HX1.out Tryz.underlying35 rfl val_size ?_)
  |(refine ld_if rfl 35 _ rfl (w.heap.size+1) rfl 35 _ _ _ HX2.out Tryz.underlying35 rfl val_size ?_)
  |(go_at_call 14;(with_reducible refine(HOR.out _ HW.out).mono ?_);rintro r V ⟨rfl,hb⟩;replace HW:=iH (tW HW.out hb);clear hb))
 have hb:=tW HB1.out HW.out;go_ret;exact⟨rfl,hb⟩
theorem od_Hash (seed:Nat) (a:Tr) (x:Cel) (w:World) (hs:seed<18446744073709551616) (hv:VAt (fun _=>True) w a x) (ha:ValB a) (hT:Tab6 w):Calls Tryz.prog 16 #[.int .u64 (seed:Int),.agg (celC x)] w fun e w'=>e=.returned (.int .u64 (txtN seed (keyT a):Nat))/\Below w.heap.size w w':=by
 obtain⟨w1,hw1⟩:∃w1,w.alloc (.cells (celC x) 35)=w1:=⟨_,rfl⟩
 obtain⟨hb1,hx1,hs1⟩:=new_below hw1;obtain⟨ka,hka⟩:∃k,k=kB a:=⟨_,rfl⟩
 obtain⟨n,hn⟩:∃n,n=txtN seed (keyT a):=⟨_,rfl⟩
 have HKA:Hid (∀W,Below w1.heap.size w1 W->Calls Tryz.prog 41 #[.agg (celC x)] W fun e w'=>e=.returned (.string ka)/\Below W.heap.size W w'):=fun W hb=>by rw[hka];exact va_Key W a x ha ((hv.later hb1).later hb) ((hT.below hb1).below hb)
 have HTX:Hid (∀W,Calls Tryz.prog 42 #[.int .u64 (seed:Int),.string ka] W fun e w'=>e=.returned (.int .u64 (n:Nat))/\W=w'):=fun W=>by
  have h:=mix_Text seed ka hs (by rw[hka];exact Nat.le_trans ha.kB (by decide)) W;rw[hka,kB_data]at h;rw[hn,hka];exact h
 rw[<-hn];have HB1:=iH hb1;have HX1:=iH hx1;have HW:Hid (Below w1.heap.size w1 w1):=Below.refl _ _;clear hka hn hb1 hx1 hs1 hv ha hT;go_enter Tryz.func16,Tryz.ntmps16;go_upto_region 1 with fail
 clear hw1;go_wp2_with (first
  |(refine ld_if rfl 35 _ rfl w.heap.size rfl 35 _ _ _ HX1.out Tryz.underlying35 rfl val_size ?_)
  |(go_at_call 41;(with_reducible refine(HKA.out _ HW.out).mono ?_);rintro r V ⟨rfl,hb⟩;replace HW:=iH (tW HW.out hb);clear hb)
  |(go_at_call 42;(with_reducible refine(HTX.out _).mono ?_);rintro r V2 ⟨rfl,rfl⟩))
 have hb:=tW HB1.out HW.out;go_ret;exact⟨rfl,hb⟩
end Go.Proofs.YtengibnpebfblaaGreatDoor
