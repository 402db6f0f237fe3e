import Derived.Test.YtengibnpebfblaaGreatDoorB38
set_option maxRecDepth 1000000
set_option maxHeartbeats 8000000
set_option linter.unusedSimpArgs false
namespace Go.Proofs.YtengibnpebfblaaGreatDoor
open Go.RowKit
def ordT (a b:Tr):Int:=orderS (keyT a) (keyT b)
theorem tr_size12:(Tryz.prog.info? 28).map (·.size)=some 5:=by kernel_rfl
theorem rf_Order12 (a b:Tr) (v u:Value) (w:World) (hv:TrV w a v) (hu:TrV w b u) (ha:ValB a) (hbv:ValB b):Calls Tryz.prog 13 #[v,u] w fun e w'=>e=.returned (.int .i64 (ordT a b))/\Below w.heap.size w w':=by
 obtain⟨ak,an,att,aa,al,ac,ad,am,ae,rfl⟩:=tr_shape hv;obtain⟨bk,bn,btt,ba,bl,bc,bd,bm,be,rfl⟩:=tr_shape hu;obtain⟨w1,hw1⟩:∃w1,(w.alloc (.cells (trC ak an att (.slice aa al ac) (.slice ad am ae)) 28)).alloc (.cells (trC bk bn btt (.slice ba bl bc) (.slice bd bm be)) 28)=w1:=⟨_,rfl⟩
 obtain⟨hb1,hx1,hx2,hs1⟩:=two_new hw1;obtain⟨ka,hka⟩:∃k,k=kB a:=⟨_,rfl⟩
 obtain⟨kz,hkz⟩:∃k,k=kB b:=⟨_,rfl⟩
 obtain⟨n,hn⟩:∃n,n=ordT a b:=⟨_,rfl⟩
 have HKA:Hid (∀W,Below w1.heap.size w1 W->Calls Tryz.prog 38 #[.agg (trC ak an att (.slice aa al ac) (.slice ad am ae))] W fun e w'=>e=.returned (.string ka)/\Below W.heap.size W w'):=fun W hb=>by rw[hka];exact rf_Key a _ W ((hv.later hb1).later hb) ha
 have HKB:Hid (∀W,Below w1.heap.size w1 W->Calls Tryz.prog 38 #[.agg (trC bk bn btt (.slice ba bl bc) (.slice bd bm be))] W fun e w'=>e=.returned (.string kz)/\Below W.heap.size W w'):=fun W hb=>by rw[hkz];exact rf_Key b _ W ((hu.later hb1).later hb) hbv
 have HOR:Hid (∀W,Calls Tryz.prog 39 #[.string ka,.string kz] W fun e w'=>e=.returned (.int .i64 n)/\Below W.heap.size W w'):=fun W=>by
  have h:=ref_Order ka kz W (by rw[hka];exact Nat.le_trans ha.kB (by decide));rw[hka,hkz,kB_data,kB_data]at h;rw[hn,hka,hkz];exact h.mono fun _ _ h=>⟨h.1,h.2.below⟩
 rw[<-hn];have HB1:=iH hb1;have HKS:Hid (∀V,Below w1.heap.size w1 V->V.heap[w.heap.size]? =some (.cells (trC ak an att (.slice aa al ac) (.slice ad am ae)) 28 (0,0))/\V.heap[w.heap.size+1]? =some (.cells (trC bk bn btt (.slice ba bl bc) (.slice bd bm be)) 28 (0,0))):=fun V hb=>⟨kW hb hx1,kW hb hx2⟩
 have HW:Hid (Below w1.heap.size w1 w1.drew):=drawn_below w1;clear hka hkz hn hb1 hx1 hx2 hs1 hv hu ha hbv;go_enter Tryz.func13,Tryz.ntmps13;go_upto_region 1 with fail
 clear hw1;refine wp_region_T (S:=(fun V=>V.heap[w.heap.size]? =some (.cells (trC ak an att (.slice aa al ac) (.slice ad am ae)) 28 (0,0))/\V.heap[w.heap.size+1]? =some (.cells (trC bk bn btt (.slice ba bl bc) (.slice bd bm be)) 28 (0,0)))) [] (by kernel_rfl) (by exact HKS.out _ HW.out) (fun hHeld=> ?_);refine tyL 0 5 (hy:=yieldsIf_load_row (by rfl) 28 _ rfl w.heap.size rfl (trC ak an att (.slice aa al ac) (.slice ad am ae)) 28 (0,0) _ (fun w hw=>hw.1) Tryz.underlying28 rfl (by exact tr_size12)) (h:=?_);refine tyL 2 7 (hy:=yieldsIf_load_row (by rfl) 28 _ rfl (w.heap.size+1) rfl (trC bk bn btt (.slice ba bl bc) (.slice bd bm be)) 28 (0,0) _ (fun w hw=>hw.2) Tryz.underlying28 rfl (by exact tr_size12)) (h:=?_);(try simp only[pq]);refine tkO 1 (some 6) (h:=fun K hK=> ?_);go_simp;go_at_call 38;(with_reducible refine(HKA.out _ (by exact HW.out)).mono ?_);rintro r wa ⟨rfl,hb⟩;replace HW:=iH (tW HW.out hb);clear hb;dsimp only;refine hK.out _ _ (by exact HKS.out _ HW.out) (fun hHeld=> ?_);clear hK K;(try simp only[pq]);refine tkO 3 (some 8) (h:=fun K hK=> ?_);go_simp;go_at_call 38;(with_reducible refine(HKB.out _ (by exact HW.out)).mono ?_);rintro r wb ⟨rfl,hb⟩;replace HW:=iH (tW HW.out hb);clear hb;dsimp only;refine hK.out _ _ (by exact HKS.out _ HW.out) (fun hHeld=> ?_);clear hK K;(try simp only[pq]);refine tkO 4 (some 9) (h:=fun K hK=> ?_);go_simp;go_at_call 39;(with_reducible refine(HOR.out _).mono ?_);rintro r wc ⟨rfl,hb⟩;replace HW:=iH (tW HW.out hb);clear hb;dsimp only;refine hK.out _ _ (by exact HKS.out _ HW.out) (fun hHeld=> ?_);clear hK K;(try simp only[pq]);refine tkL 5 4 (h:=?_);(try simp only[pq]);refine wpAnyT_done (by kernel_rfl) ?_ _;clear hHeld;go_wp2_with fail
 have hb:=tW HB1.out HW.out;go_ret;exact⟨rfl,hb⟩
theorem rf_Hash12 (seed:Nat) (a:Tr) (v:Value) (w:World) (hs:seed<18446744073709551616) (hv:TrV w a v) (ha:ValB a):Calls Tryz.prog 17 #[.int .u64 (seed:Int),v] w fun e w'=>e=.returned (.int .u64 (txtN seed (keyT a):Nat))/\Below w.heap.size w w':=by
 obtain⟨ak,an,att,aa,al,ac,ad,am,ae,rfl⟩:=tr_shape hv;obtain⟨w1,hw1⟩:∃w1,w.alloc (.cells (trC ak an att (.slice aa al ac) (.slice ad am ae)) 28)=w1:=⟨_,rfl⟩
 obtain⟨hb1,hx1,hs1⟩:=new_below hw1;obtain⟨ka,hka⟩:∃k,k=kB a:=⟨_,rfl⟩
 obtain⟨n,hn⟩:∃n,n=txtN seed (keyT a):=⟨_,rfl⟩
 have HKA:Hid (∀W,Below w1.heap.size w1 W->Calls Tryz.prog 38 #[.agg (trC ak an att (.slice aa al ac) (.slice ad am ae))] W fun e w'=>e=.returned (.string ka)/\Below W.heap.size W w'):=fun W hb=>by rw[hka];exact rf_Key a _ W ((hv.later hb1).later hb) ha
 have HTX:Hid (∀W,Calls Tryz.prog 43 #[.int .u64 (seed:Int),.string ka] W fun e w'=>e=.returned (.int .u64 (n:Nat))/\W=w'):=fun W=>by
  have h:=ref_Text seed ka hs (by rw[hka];exact Nat.le_trans ha.kB (by decide)) W;rw[hka,kB_data]at h;rw[hn,hka];exact h
 rw[<-hn];have HB1:=iH hb1;have HX1:=iH hx1;have HW:Hid (Below w1.heap.size w1 w1):=Below.refl _ _;clear hka hn hb1 hx1 hs1 hv ha;go_enter Tryz.func17,Tryz.ntmps17;go_upto_region 1 with fail
 clear hw1;go_wp2_with (first
  |(refine ld_if rfl 28 _ rfl w.heap.size rfl 28 _ _ _ HX1.out Tryz.underlying28 rfl tr_size12 ?_)
  |(go_at_call 38;(with_reducible refine(HKA.out _ HW.out).mono ?_);rintro r V ⟨rfl,hb⟩;replace HW:=iH (tW HW.out hb);clear hb)
  |(go_at_call 43;(with_reducible refine(HTX.out _).mono ?_);rintro r V2 ⟨rfl,rfl⟩))
 have hb:=tW HB1.out HW.out;go_ret;exact⟨rfl,hb⟩
end Go.Proofs.YtengibnpebfblaaGreatDoor
