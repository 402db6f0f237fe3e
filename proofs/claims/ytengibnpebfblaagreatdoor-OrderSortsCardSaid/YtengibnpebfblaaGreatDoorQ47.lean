import Derived.Test.YtengibnpebfblaaGreatDoorQ0
import Derived.Test.YtengibnpebfblaaGreatDoorQ43
import Derived.Test.YtengibnpebfblaaGreatDoorQ46
import Derived.Test.YtengibnpebfblaaGreatDoorQ49
set_option maxRecDepth 1000000
set_option maxHeartbeats 8000000
set_option linter.unusedSimpArgs false
/-Package order:each value of a list once,by their order. (written by tools/gen12/odunq.py)-/
namespace Go.Proofs.YtengibnpebfblaaGreatDoor
open Go.RowKit
/-! what is kept of the first ones-/
def unP (L:List Tr) (i:Nat):List Tr:=(L.take i).foldl lT []
theorem yH (L:List Tr) {i:Nat} (h:i<L.length):unP L (i+1)=lT (unP L i) L[i]:=by
  unfold unP;rw[aS h,nO];rfl
theorem aJZ (L:List Tr) {i:Nat} (h:i<L.length):unP L (i+1)≠[]/\eC ((unP L (i+1)).getLastD iE) L[i]=0:=by
  rw[yH L h];unfold lT;split
  ·exact⟨by simp,by rw[List.getLastD_concat];exact sA _⟩
  ·rename_i hc
   exact⟨fun e=>hc (.inl e),Decidable.not_not.1 fun e=>hc (.inr e)⟩
theorem uO {a b:Tr}:eC a b=0↔dG a=dG b:=by unfold eC;exact gJ _ _
theorem aET (L:List Tr) {i:Nat} (h:i+1<L.length):unP L (i+1+1)=if eC L[i+1] L[i]=0 then unP L (i+1)else unP L (i+1)++[L[i+1]]:=by
  obtain⟨h1,h2⟩:=aJZ L (show i<L.length by omega);have hk:=uO.1 h2;rw[yH L h];unfold lT;by_cases hz:eC L[i+1] L[i]=0
  ·rw[if_pos hz,if_neg]
   rintro(e|e)
   ·exact h1 e
   ·exact e (uO.2 (hk.trans (uO.1 hz).symm))
  ·rw[if_neg hz,if_pos]
   exact .inr fun e=>hz (uO.2 ((uO.1 e).symm.trans hk))
theorem aGy (L:List Tr):∀i,(unP L i).length<=i
  |0=>by simp[unP]
  |i+1=>by
   rcases cZ i L.length with h|h
   ·rw[yH L h]
    have:=aGy L i;unfold lT;split
    ·simp;omega
    ·omega
   ·have e:unP L (i+1)=unP L i:=by unfold unP;rw[aZ uAu,aZ h]
    rw[e];have:=aGy L i;omega
theorem aHs (l:List Tr):unP (fT l) (fT l).length=aB9 l:=by unfold unP aB9;rw[eN]
theorem aM9 {L:List Tr} {i:Nat} {x:Tr} (h:x∈unP L i):x∈L:=dI ((aAQ h).resolve_left uBu)
theorem aMa (L:List Tr) (h:L.length<2):unP L L.length=L:=by
  match L,h with
  |[],_=>rfl
  |[x],_=>simp[unP,lT]
  |_::_::_,h=>exact absurd h uBu
/-! the list's block under way-/
def qT (cur:Array Value) (p:Nat) (c:Cel):Prop:=∀q u,(aX c)[q]? =some u->cur[p*4+q]? =some u
theorem qT.range {W:World} {B p:Nat} {cur:Array Value} {T:TypeId} {fr:Nat×Nat} {c:Cel} (h:qT cur p c) (hx:W.heap[B]? =some (.cells cur T fr)):W.rangeAt B (p*4) (aX c).toList:=fun q u hu=>aK hx (h q u uKx)
theorem aI2 {c:Cel} {q:Nat} {u:Value} (h:(aX c)[q]? =some u):q<4:=by
  have h1:=(Array.getElem?_eq_some_iff.1 h).1;have h2:(aX c).size=4:=rfl;omega
/--What a store of cells leaves.-/
theorem aKz {cur:Array Value} {k:Nat} {Z:List Value} (hk:k+Z.length<=cur.size):(cur.toList.take k++Z++cur.toList.drop (k+Z.length)).toArray.size=cur.size:=by
  simp only[cA,aD,aV,bS,bB];omega
theorem aHD {cur:Array Value} {k:Nat} {Z:List Value} (hk:k+Z.length<=cur.size) (m:Nat):(cur.toList.take k++Z++cur.toList.drop (k+Z.length)).toArray[m]? =if m<k then cur[m]? else if m<k+Z.length then Z[m-k]? else cur[m]? :=by
  rw[<-Array.getElem?_toList,vE];have hl:(cur.toList.take k).length=k:=by rw[aV,bB];omega
  by_cases h1:m<k
  ·rw[if_pos h1,bN,List.getElem?_append_left (by rw[hl];exact h1),List.getElem?_take,if_pos h1,Array.getElem?_toList]
  ·rw[if_neg h1]
   by_cases h2:m<k+Z.length
   ·rw[if_pos h2,bN,List.getElem?_append_right (by rw[hl];omega),hl,List.getElem?_append_left uAu]
   ·rw[if_neg h2,List.getElem?_append_right (by rw[aD,hl];omega),aD,hl,List.getElem?_drop,Array.getElem?_toList,show k+Z.length+(m-(k+Z.length))=m by omega]
theorem qT.put {cur:Array Value} {k:Nat} {c:Cel} (hk:k*4+4<=cur.size):qT (cur.toList.take (k*4)++(aX c).toList++cur.toList.drop (k*4+(aX c).toList.length)).toArray k c:=fun q u hu=>by
  have hq:=aI2 hu;rw[aHD (by exact hk),if_neg uAu,if_pos (show k*4+q<k*4+(aX c).toList.length from by show _<k*4+4;omega),mA,Array.getElem?_toList];exact hu
theorem qT.other {cur:Array Value} {k j:Nat} {Z:List Value} {x:Cel} (h:qT cur j x) (hk:k*4+Z.length<=cur.size) (hj:j<k\/k*4+Z.length<=j*4):qT (cur.toList.take (k*4)++Z++cur.toList.drop (k*4+Z.length)).toArray j x:=fun q u hu=>by
  have hq:=aI2 hu;rw[aHD hk];rcases hj with hj|hj
  ·rw[if_pos uAu];exact h q u hu
  ·rw[if_neg uAu,if_neg uAu];exact h q u hu
/--The first ones are what is kept;from i-1 on all stands as it stood.-/
def xU (n0 B cap:Nat) (L:List Tr) (ys:List Cel) (i:Nat) (W:World):Prop:=∃(cur:Array Value) (zs:List Cel),W.heap[B]? =some (.cells cur 35 (0,0))/\cur.size=cap*4/\(∀j (h:j<ys.length),i<=j+1->qT cur j ys[j])/\zs.length=(unP L i).length/\
  ∀j (h:j<zs.length) (h':j<(unP L i).length),qT cur j zs[j]/\VAt (fun g=>g<n0) W (unP L i)[j] zs[j]
theorem xU.later {n0 B cap i:Nat} {L:List Tr} {ys:List Cel} {W W':World} (h:xU n0 B cap L ys i W) (hb:Below W.heap.size W W'):xU n0 B cap L ys i W':=by
  obtain⟨cur,zs,h1,h2,h3,h4,h5⟩:=h;exact⟨cur,zs,(hb.block _ (Array.getElem?_eq_some_iff.1 h1).1).trans h1,h2,h3,h4,fun j h h'=>⟨(h5 j h h').1,(h5 j h h').2.later hb⟩⟩
theorem xU.skip {n0 B cap i:Nat} {L:List Tr} {ys:List Cel} {W:World} (h:xU n0 B cap L ys i W) (he:unP L (i+1)=unP L i):xU n0 B cap L ys (i+1) W:=by
  obtain⟨cur,zs,h1,h2,h3,h4,h5⟩:=h;refine⟨cur,zs,h1,h2,fun j h hj=>h3 j h uAu,by rw[he];exact h4,?_⟩;rw[he];exact h5
theorem xU.keep {n0 B cap i k:Nat} {L:List Tr} {ys:List Cel} {W W':World} {cur:Array Value} {zs:List Cel} (hi:i<L.length) (hy:i<ys.length) (hn:n0<=B) (hk:k=(unP L i).length) (hki:k<i) (hcap:L.length<=cap)
    (_:W.heap[B]? =some (.cells cur 35 (0,0))) (h2:cur.size=cap*4) (h3:∀j (h:j<ys.length),i<=j+1->qT cur j ys[j]) (h4:zs.length=(unP L i).length) (h5:∀j (h:j<zs.length) (h':j<(unP L i).length),qT cur j zs[j]/\VAt (fun g=>g<n0) W (unP L i)[j] zs[j])
    (hv:VAt (fun g=>g<n0) W L[i] ys[i]) (he:unP L (i+1)=unP L i++[L[i]])
    (hw:W'.heap[B]? =some (.cells (cur.toList.take (k*4)++(aX ys[i]).toList++cur.toList.drop (k*4+(aX ys[i]).toList.length)).toArray 35 (0,0))) (ho:jK B W W'):xU n0 B cap L ys (i+1) W':=by
  have hz:(aX ys[i]).toList.length=4:=rfl;have hkc:k*4+(aX ys[i]).toList.length<=cur.size:=by rw[hz];omega
  have hb:Below n0 W W':=ho.below hn;refine⟨_,zs++[ys[i]],hw,(aKz hkc).trans h2,fun j h hj=>(h3 j h uAu).other hkc (.inr (by rw[hz];omega)),by rw[he,aD,aD,h4];rfl,fun j h h'=> ?_⟩;simp only[he];rcases cZ j k with hj|hj
  ·rw[dK uAu,dK uAu]
   obtain⟨p1,p2⟩:=h5 j uAu uAu;exact⟨p1.other hkc (.inl hj),p2.low hb⟩
  ·obtain rfl:j=k:=by rw[aD,h4,bM]at h;omega
   have e1:(zs++[ys[i]])[j]'h=ys[i]:=by rw[dH uAu];simp[h4,<-hk]
   have e2:(unP L i++[L[i]])[j]'(by rw[<-he];exact h')=L[i]:=by rw[dH uAu];simp[<-hk]
   rw[e1,e2];exact⟨qT.put uAu,hv.low hb⟩
/--Cells at a block's head are a list of values.-/
theorem aIm {n0 B c2:Nat} {P:List Tr} {zs:List Cel} {W:World} {d:Array Value} (hx:W.heap[B]? =some (.cells d 35 (0,0))) (hv:∀x∈P,dW x) (hc:P.length<=c2) (hm:P.length<=1000) (h4:zs.length=P.length) (h5:∀j (h:j<zs.length) (h':j<P.length),qT d j zs[j]/\VAt (fun g=>g<n0) W P[j] zs[j]):
    lU (fun _=>True) W (.slice (some ⟨B,0,none⟩) P.length c2) P:=by
  refine⟨_,c2,B,0,rfl,⟨by unfold maxLen;omega,hc,.inr ⟨rfl,(Array.getElem?_eq_some_iff.1 hx).1⟩⟩,fun _=>rfl,fun j hj=>⟨zs[j]' uAu,hv _ (aO hj),(h5 j uAu hj).2.weak fun _ _=>trivial,?_⟩⟩;rw[dL];exact(h5 j uAu hj).1.range hx
/--'clear' of a list of structs:what lies ahead of it stays.-/
theorem aFa (w:World) (B k n c:Nat) (cur:Array Value) (hx:w.heap[B]? =some (.cells cur 35 (0,0))) (hn:0<n) (hk:k*4+n*4<=cur.size):
    ∃Z:List Value,Z.length=n*4/\∀ty,(Builtin.clear_ #[52] ty #[.slice (some ⟨B,k*4,none⟩) n c]).run Tryz.prog w=.ok (.tuple #[]) (w.setRow B (cur.toList.take (k*4)++Z++cur.toList.drop (k*4+Z.length)).toArray):=by
  obtain⟨z,hz⟩:∃z:Array Value,z=#[.int .i64 0,.int .i64 0,.string ⟨#[]⟩,.pointer none]:=⟨_,rfl⟩
  have hzs:z.size=4:=by rw[hz];rfl
  have hzv:∀w,(zeroValue 35).run Tryz.prog w=.ok (.agg z) w:=fun w=>by rw[hz];kernel_rfl
  have hz1:∀i,i<4->(z[i]!).oneCell'=true:=fun i hi=>by
    rw[hz]
    match i,hi with
    |0,_=>rfl
    |1,_=>rfl
    |2,_=>rfl
    |3,_=>rfl
    |i+4,h=>exact absurd h uAu
  have hl:(Builtin.zeroCells z n).toList.length=n*4:=by simp[Builtin.zeroCells,hzs]
  refine⟨(Builtin.zeroCells z n).toList,hl,fun ty=> ?_⟩;have hst:=kZ (P:=Tryz.prog) B (k*4) 35 (Builtin.zeroCells z n).toList 0 cur w hx (by rw[hl];omega) (fun v hv=>by
    simp only[Builtin.zeroCells,Array.toList_map,cH]at hv;obtain⟨i,_,rfl⟩:=hv;exact hz1 _ (by rw[hzs];exact mP _ uAu))
  simp only[kA]at hst;obtain⟨m,rfl⟩:∃m,n=m+1:=⟨n-1,by omega⟩
  simp[Builtin.clear_,rF Tryz.underlying52,hzv,Value.cells,hst]
theorem aIp (L:List Tr) (h:0<L.length):unP L 1=L.take 1:=by
  rw[yH L h]
  match L,h with
  |x::r,_=>simp[unP,lT]
theorem xU.start {n0 B cap i:Nat} {L:List Tr} {ys:List Cel} {W:World} {cur:Array Value} (hi:i<=L.length) (hy:ys.length=L.length) (hx:W.heap[B]? =some (.cells cur 35 (0,0))) (hs:cur.size=cap*4) (hc:∀j (h:j<ys.length),qT cur j ys[j])
    (hv:∀j (h:j<L.length) (h':j<ys.length),VAt (fun g=>g<n0) W L[j] ys[j]) (k:Nat) (hk:k<=i) (he:unP L i=L.take k):xU n0 B cap L ys i W:=by
  refine⟨cur,ys.take k,hx,hs,fun j h _=>hc j h,by rw[he,aV,aV,hy],fun j h h'=> ?_⟩;have hj:j<k:=by rw[aV]at h;omega
  have hjl:j<L.length:=by omega
  simp only[he,rK];exact⟨hc j uAu,hv j hjl uAu⟩
theorem aCH (w:World):(sizeOf (Tryz.prog.elem 52)).run Tryz.prog w=.ok 4 w:=by
  have e:Tryz.prog.elem 52=35:=by kernel_rfl
  rw[e];obtain⟨i,hi,_,h1,_⟩:=dV pT;simp[sizeOf,typeInfo,hi,h1]
theorem aB6:Tryz.prog.underlying 52=some (.slice (Tryz.prog.elem 52)):=by kernel_rfl
theorem aCP (B N cap k:Nat) (hk:k<N) (hc:N<=cap) (W:World):(Instr.slice 52 (.slice (some ⟨B,0,none⟩) N cap) (some (.int .i64 (k:Int))) none none).run Tryz.prog W=.ok (.slice (some ⟨B,k*4,none⟩) (N-k) (cap-k)) W:=by
  rw[run_slice_l W 52 _ N cap aB6 _ _ uAu uAu,aCH];simp only[cS,lC,sliced];rw[if_neg uAu];congr 2
  simp[Addr.add];intro h;exact h.symm
theorem aMs (B N cap k:Nat) (hk:k<=cap) (h0:0<cap) (W:World):(Instr.slice 52 (.slice (some ⟨B,0,none⟩) N cap) none (some (.int .i64 (k:Int))) none).run Tryz.prog W=.ok (.slice (some ⟨B,0,none⟩) k cap) W:=by
  rw[run_slice_h W 52 _ N cap aB6 _ _ uAu uAu,aCH];simp only[cS,lC,sliced];rw[if_neg uAu];simp[Addr.add]
theorem aNR (L:List Tr) (n0:Nat) (u:Value) (w:World) (hu:gV n0 (fun g=>g<n0) w u L) (hvb:∀x∈L,dW x) (hlen:L.length<=1000) (hT:fW w) (hg0:1<n0):
    Calls Tryz.prog 55 #[u,.func (.func 15) #[] #[]] w fun r w'=>∃v,r=.returned v/\lU (fun _=>True) w' v (unP L L.length)/\Below n0 w w':=by
  by_cases h2:L.length<2
  ·have hls:=hu.vaLs.weak (fun _ _=>trivial) (S':=fun _=>True)
   rw[aMa L h2];obtain⟨a,c,b,o,rfl,hrest⟩:=id hls;have HLS:=aJ hls;have h2':(L.length:Int)<2:=by omega
   clear hu hvb hT hls hrest;go_enter Tryz.func55,Tryz.ntmps55;go_wp2_with fail
   go_ret;exact⟨_,rfl,HLS.out,aY _ _⟩
  obtain⟨ys,hyl,hrw,_,hvl⟩:=hu;obtain⟨N,hN⟩:∃N,N=L.length:=⟨_,rfl⟩
  have hml:(ys.map aX).length=N:=by rw[aH,hyl,hN]
  obtain⟨B,cap,cur,rfl,hBg,hx,hcap,hcs,_⟩:=hrw.at_ (fun e=>by rw[e]at hml;simp at hml;omega);rw[hml]at hcap ⊢;have hca:∀j (h:j<ys.length),qT cur j ys[j]:=fun j h q u hq=>by
    have hr:=hrw.own.read rfl (i:=j) (c:=aX ys[j]) (by rw[List.getElem?_map,List.getElem?_eq_getElem h];rfl);have h3:=hr q u (by rw[Array.getElem?_toList];exact hq);rwa[cell_of_row w B _ cur 35 (0,0) hx]at h3
  have hva:∀j (h:j<L.length) (h':j<ys.length),VAt (fun g=>g<n0) w L[j] ys[j]:=fun j h h'=>(hvl j h h').2
  have hls:lU (fun _=>True) w (.slice (some ⟨B,0,none⟩) N cap) L:=by
    have h:=(gV.vaLs ⟨ys,hyl,hrw,by omega,hvl⟩).weak (fun _ _=>trivial) (S':=fun _=>True);rwa[hml]at h
  have HX:=aJ hx;have HCA:=aJ hca;have HVA:=aJ hva;have HLS:=aJ hls;have HVB:=aJ hvb;have HT:=aJ hT;have HNL:Hid (N=L.length/\ys.length=L.length/\2<=N/\N<=1000/\N<=cap/\cur.size=cap*4/\n0<=B):=⟨hN,hyl,by omega,by omega,hcap,hcs,hBg⟩
  have hn2:¬(N:Int)<2:=by omega
  have hn4:(N:Int)<=1000:=by omega
  have HNW:Hid (n0<=w.heap.size):=hrw.2.1;have HG0:=aJ hg0;clear hx hca hva hls hvb hT hN hml hrw hvl hyl hcap hcs hBg hlen h2 hg0;go_enter Tryz.func55,Tryz.ntmps55;go_wp2_with fail
  clear hn2;go_loopw [5] (fun a W=>∃k:Nat,1<=k/\k<=N/\a=.int .i64 (k:Int)/\unP L k=L.take k/\Below w.heap.size w W) (fun a _=>N-(intOf a).toNat)
  case atStart=>exact⟨1,aE _,by have:=HNL.out;omega,rfl,aIp L uIx,aY _ _⟩
  case round=>
    obtain⟨k,hk1,hkN,rfl,huk,hbw⟩:=hrel;have HUK:=aJ huk;have HBW:=aJ hbw;clear huk hbw;by_cases hlt:k<N
    case neg=>
      obtain rfl:k=N:=by omega
      have HFI:Hid (lU (fun _=>True) wr (.slice (some ⟨B,0,none⟩) k cap) (unP L L.length)):=by
        have h:=HUK.out;rw[HNL.out.1,eN]at h;show lU _ _ _ _;rw[h];exact HLS.out.later HBW.out
      go_wp2_with fail
      go_ret;exact⟨_,rfl,HFI.out,HBW.out.mono HNW.out⟩
    have hlt':(k:Int)<N:=by omega
    have hk0:(0:Int)<=(k:Int):=by omega
    obtain⟨p,hp⟩:∃p,k=p+1:=⟨k-1,by omega⟩
    have hkL:k<L.length:=by rw[<-HNL.out.1];exact hlt
    have hky:k<ys.length:=by rw[HNL.out.2.1];exact hkL
    have hpL:p<L.length:=by omega
    have hpy:p<ys.length:=by omega
    have hpN:(p:Int)<N:=by omega
    have hp0:(0:Int)<=(p:Int):=by omega
    have hwk:IntKind.i64.wrap ((k:Int)-1)=(p:Int):=by rw[gE]<;>omega
    obtain⟨yk,hyk⟩:∃y,y=ys[k]:=⟨_,rfl⟩
    obtain⟨yp,hyp⟩:∃y,y=ys[p]:=⟨_,rfl⟩
    obtain⟨b,hb⟩:∃b,b=(eC L[k] L[p]==0):=⟨_,rfl⟩
    have HXW:Hid (wr.heap[B]? =some (.cells cur 35 (0,0))):=(HBW.out.block _ (Array.getElem?_eq_some_iff.1 HX.out).1).trans HX.out;have HSM:Hid (∀V,Below wr.heap.size wr V->Calls Tryz.prog 15 #[.agg (aX yk),.agg (aX yp)] V fun r w'=>r=.returned (.bool b)/\Below V.heap.size V w'):=fun V hV=>by
      have hbV:=HBW.out.trans (hV.mono HBW.out.size);rw[hb,hyk,hyp];exact aE2 _ _ _ _ V (((HVA.out k hkL hky).weak fun _ _=>trivial).later hbV) (((HVA.out p hpL hpy).weak fun _ _=>trivial).later hbV) (HVB.out _ (aO hkL)) (HVB.out _ (aO hpL)) (HT.out.below hbV)
    have HKS:Hid (∀V,Below wr.heap.size wr V->V.rangeAt B (k*4) (aX yk).toList/\V.rangeAt B (p*4) (aX yp).toList):=fun V hV=>by
      have hxV:=(hV.block _ (Array.getElem?_eq_some_iff.1 HXW.out).1).trans HXW.out;rw[hyk,hyp];exact⟨(HCA.out k hky).range hxV,(HCA.out p hpy).range hxV⟩
    have HW:Hid (Below wr.heap.size wr wr.drew):=bE wr;have HBE:Hid (unP L (k+1)=if b=true then unP L k else unP L k++[L[k]]):=by
      show _=_;subst hp;rw[aET L hkL,hb];by_cases h0:eC L[p+1] L[p]=0
      ·rw[if_pos h0,if_pos (kL.2 h0)]
      ·rw[if_neg h0,if_neg (fun e=>h0 (kL.1 e))]
    have HKL:Hid (k<L.length/\k<ys.length):=⟨hkL,hky⟩
    have HPK:=aJ hp;clear hp hpL hpy hyk hyp hb;go_upto_region 6 with fail
    refine bL (S:=(fun V=>V.rangeAt B (k*4) (aX yk).toList/\V.rangeAt B (p*4) (aX yp).toList)) [] hO uAw (fun hHeld=> ?_);refine aI (i:=0) (oi:=⟨some 18,_,_,_,_,_⟩) (v:=?vg1_0) rfl hO hO hO hO (fun _ _ _ h=>h) (Or.inl ⟨by rfl,?hg1_0⟩) uAx ?rg1_0
    case hg1_0=>(intro w hSw;(try dsimp only at hSw);first|(go_simp;done)|(go_simp;with_reducible rfl))
    (try simp only[Act.put,aA,aB,aC]);refine aI (i:=1) (oi:=⟨some 19,_,_,_,_,_⟩) (v:=?vg1_1) rfl hO hO hO hO (fun _ _ _ h=>h) (Or.inl ⟨by rfl,?hg1_1⟩) uAx ?rg1_1
    case hg1_1=>(intro w hSw;(try dsimp only at hSw);first|(go_simp;done)|(go_simp;with_reducible rfl))
    (try simp only[Act.put,aA,aB,aC]);refine aI (i:=2) (oi:=⟨some 20,_,_,_,_,_⟩) (v:=?vg1_2) rfl hO hO hO hO (fun _ _ _ h=>h) (Or.inl ⟨by rfl,?hg1_2⟩) uAx ?rg1_2
    case hg1_2=>(intro w hSw;(try dsimp only at hSw);first|(go_simp;done)|(go_simp;with_reducible rfl))
    (try simp only[Act.put,aA,aB,aC]);refine aI (i:=3) (oi:=⟨some 21,_,_,_,_,_⟩) (v:=?vg1_3) rfl hO hO hO hO (fun _ _ _ h=>h) (Or.inl ⟨by rfl,?hg1_3⟩) uAx ?rg1_3
    case hg1_3=>(intro w hSw;(try dsimp only at hSw);first|(go_simp;done)|(go_simp;with_reducible rfl))
    (try simp only[Act.put,aA,aB,aC]);refine aI (i:=4) (oi:=⟨some 22,_,_,_,_,_⟩) (v:=_) rfl hO hO hO hO (fun _ _ _ h=>h) (bT uAz 35 _ rfl B (k*4) rfl (aX yk) _ (fun w hw=>hw.1) Tryz.underlying35 rfl uFz) uAx ?_;(try simp only[Act.put,aA,aB,aC]);refine aI (i:=5) (oi:=⟨some 23,_,_,_,_,_⟩) (v:=?vg1_5) rfl hO hO hO hO (fun _ _ _ h=>h) (Or.inl ⟨by rfl,?hg1_5⟩) uAx ?rg1_5
    case hg1_5=>(intro w hSw;(try dsimp only at hSw);first|(go_simp;done)|(go_simp;with_reducible rfl))
    (try simp only[Act.put,aA,aB,aC]);refine aI (i:=6) (oi:=⟨some 24,_,_,_,_,_⟩) (v:=?vg1_6) rfl hO hO hO hO (fun _ _ _ h=>h) (Or.inl ⟨by rfl,?hg1_6⟩) uAx ?rg1_6
    case hg1_6=>(intro w hSw;(try dsimp only at hSw);first|(go_simp;done)|(go_simp;with_reducible rfl))
    (try simp only[Act.put,aA,aB,aC]);refine aI (i:=7) (oi:=⟨some 25,_,_,_,_,_⟩) (v:=(.int .i64 (p:Int))) rfl hO hO hO hO (fun _ _ _ h=>h) (Or.inl ⟨by rfl,?hg1_7⟩) uAx ?rg1_7
    case hg1_7=>(intro w hSw;(try dsimp only at hSw);first|(go_simp;done)|(go_simp;rw[hwk];done)|(go_simp;simp[hwk]))
    (try simp only[Act.put,aA,aB,aC]);refine aI (i:=8) (oi:=⟨some 26,_,_,_,_,_⟩) (v:=?vg1_8) rfl hO hO hO hO (fun _ _ _ h=>h) (Or.inl ⟨by rfl,?hg1_8⟩) uAx ?rg1_8
    case hg1_8=>(intro w hSw;(try dsimp only at hSw);first|(go_simp;done)|(go_simp;with_reducible rfl))
    (try simp only[Act.put,aA,aB,aC]);refine aI (i:=9) (oi:=⟨some 27,_,_,_,_,_⟩) (v:=_) rfl hO hO hO hO (fun _ _ _ h=>h) (bT uAz 35 _ rfl B (p*4) rfl (aX yp) _ (fun w hw=>hw.2) Tryz.underlying35 rfl uFz) uAx ?_;(try simp only[Act.put,aA,aB,aC]);refine jE (i:=10) (o:=⟨some 28,_,_,_,_,_⟩) hO rfl (fun K hK=> ?_);go_simp;go_at_call 15;(with_reducible refine(HSM.out _ uBy).mono ?_);rintro r w3 ⟨rfl,hb⟩;replace HW:=aJ (HW.out.trans (hb.mono HW.out.size));clear hb;dsimp only;refine hK.out _ _ uAw (fun hHeld=> ?_);clear hK K;(try simp only[Act.put,aA,aB,aC]);refine bK hO ?_ _;clear hHeld hwk;cases b with
    |false=>
     have HUN:Hid (unP L (k+1)=L.take (k+1)):=by
       have h:=HBE.out;rw[if_neg uAv,HUK.out]at h;rw[aS HKL.out.1];exact h
     go_wp2_with fail
     go_roundw
     case rel=>exact⟨k+1,by omega,by omega,by go_num,HUN.out,HBW.out.trans (HW.out.mono HBW.out.size)⟩
     case measure=>simp[intOf];omega
    |true=>
     have HUN:Hid (unP L (k+1)=L.take k):=by
       have h:=HBE.out;rw[if_pos rfl,HUK.out]at h;exact h
     have hst:xU n0 B cap L ys (k+1) w3:=by
       have hb3:=HBW.out.trans (HW.out.mono HBW.out.size);exact xU.start uIx HNL.out.2.1 ((hb3.block _ (Array.getElem?_eq_some_iff.1 HX.out).1).trans HX.out) HNL.out.2.2.2.2.2.1 HCA.out (fun j h h'=>(HVA.out j h h').later hb3) k uAu HUN.out
     have HST:=aJ hst;have HB3:Hid (Below n0 w w3):=(HBW.out.trans (HW.out.mono HBW.out.size)).mono HNW.out;have hsl:=fun W=>aCP B N cap k hlt HNL.out.2.2.2.2.1 W
     have HKU:Hid ((unP L (k+1)).length=k):=by show _=_;rw[HUN.out,aV];have:=HKL.out;omega
     have hlen2:((N-k:Nat):Int)=(N:Int)-k:=by omega
     clear hst HSM HKS HBE HUK HXW hlen2;go_upto_region 8 with fail
     clear hsl;go_wp2_with fail
     go_loopw [5,7] (fun a b W=>∃q i:Nat,1<=q/\q<=N-k/\i=k+q/\b=.int .i64 (q:Int)/\a=.int .i64 ((unP L i).length:Int)/\(unP L i).length<i/\xU n0 B cap L ys i W/\Below n0 w W) (fun _ b _=>(N-k)-(intOf b).toNat)
     case atStart=>exact⟨1,k+1,aE _,by omega,rfl,rfl,by rw[HKU.out],by rw[HKU.out];omega,HST.out,HB3.out⟩
     case round=>
       clear HST HB3 HKU HW;obtain⟨q,i,hq1,hqN,hi,rfl,rfl,hmi,hun,hbn⟩:=hrel;obtain⟨m,hm⟩:∃m,m=(unP L i).length:=⟨_,rfl⟩
       rw[<-hm]at hmi ⊢;have HM:=aJ hm;have HU:=aJ hun;have HB4:=aJ hbn;clear hm hun hbn;by_cases hq:q<N-k
       case neg=>
         have hiN:i=N:=by omega
         subst hiN;obtain⟨cu,zs,h1,h2,h3,h4,h5⟩:=HU.out;have hcs4:cu.size=cap*4:=h2;have hnn:=HNL.out;have hmN:m<i:=hmi;have hmk:m*4+(i-m)*4<=cu.size:=by omega
         obtain⟨Z,hZ,hclr⟩:=aFa wr B m (i-m) (cap-m) cu h1 uAu hmk;obtain⟨d,hd⟩:∃d,d=(cu.toList.take (m*4)++Z++cu.toList.drop (m*4+Z.length)).toArray:=⟨_,rfl⟩
         rw[<-hd]at hclr;have hx9:(wr.setRow B d).heap[B]? =some (.cells d 35 (0,0)):=mK wr B _ _ _ _ h1;have ho9:jK B wr (wr.setRow B d):=jA _ _ _;have hfin:lU (fun _=>True) (wr.setRow B d) (.slice (some ⟨B,0,none⟩) m cap) (unP L i):=by
           have hkc:m*4+Z.length<=cu.size:=by rw[hZ];exact hmk
           have h:=aIm (n0:=n0) (P:=unP L i) (zs:=zs) (c2:=cap) hx9 (fun x hx=>HVB.out x (aM9 hx)) (by rw[<-HM.out];omega) (by rw[<-HM.out];omega) h4 (fun j h h'=>by
             obtain⟨q1,q2⟩:=h5 j h h';refine⟨?_,q2.low (ho9.below hnn.2.2.2.2.2.2)⟩;rw[hd];exact q1.other hkc (.inl (by rw[HM.out];exact h')))
           rwa[<-HM.out]at h
         have HFIN:=aJ hfin;have HBF:Hid (Below n0 w (wr.setRow B d)):=HB4.out.trans (ho9.below hnn.2.2.2.2.2.2);have hs1:=fun W=>aCP B i cap m hmi HNL.out.2.2.2.2.1 W
         have hs2:=fun W=>aMs B i cap m uAu uAu W
         have hq':¬(q:Int)<((i-k:Nat):Int):=by omega
         have HLI:Hid (i=L.length):=HNL.out.1;clear h1 h2 h3 h4 h5 hd hZ hx9 ho9 hfin hmk hcs4 hnn HU HB4 hi;go_wp2_with fail
         go_ret;exact⟨_,rfl,by rw[<-HLI.out];exact HFIN.out,HBF.out⟩
       have hq':(q:Int)<((N-k:Nat):Int):=by omega
       have hq0:(0:Int)<=(q:Int):=by omega
       obtain⟨r,hr⟩:∃r,q=r+1:=⟨q-1,by omega⟩
       have hr0:(0:Int)<=(r:Int):=by omega
       have hrq:(r:Int)<((N-k:Nat):Int):=by omega
       have hwk:IntKind.i64.wrap ((q:Int)-1)=(r:Int):=by rw[gE]<;>omega
       obtain⟨j,hj⟩:∃j,i=j+1:=⟨i-1,by omega⟩
       have hiL:i<L.length:=by have:=HNL.out;omega
       have hiy:i<ys.length:=by have:=HNL.out;omega
       have hjL:j<L.length:=by omega
       have hjy:j<ys.length:=by omega
       obtain⟨yk,hyk⟩:∃y,y=ys[i]:=⟨_,rfl⟩
       obtain⟨yp,hyp⟩:∃y,y=ys[j]:=⟨_,rfl⟩
       obtain⟨b,hb⟩:∃b,b=(eC L[i] L[j]==0):=⟨_,rfl⟩
       have hvi:=HVA.out i hiL hiy;have hvj:=HVA.out j hjL hjy;have HSM:Hid (∀V,Below wr.heap.size wr V->Calls Tryz.prog 15 #[.agg (aX yk),.agg (aX yp)] V fun r w'=>r=.returned (.bool b)/\Below V.heap.size V w'):=fun V hV=>by
         have hbV:Below n0 w V:=HB4.out.trans (hV.mono (aG HNW.out HB4.out.size));rw[hb,hyk,hyp];exact aE2 _ _ _ _ V ((hvi.low hbV).weak fun _ _=>trivial) ((hvj.low hbV).weak fun _ _=>trivial) (HVB.out _ (aO hiL)) (HVB.out _ (aO hjL)) (HT.out.low HG0.out hbV)
       have HKS:Hid (∀V,Below wr.heap.size wr V->V.rangeAt B (k*4+q*4) (aX yk).toList/\V.rangeAt B (k*4+r*4) (aX yp).toList):=fun V hV=>by
         obtain⟨cu,zs,h1,h2,h3,h4,h5⟩:=HU.out.later hV;rw[hyk,hyp,show k*4+q*4=i*4 by omega,show k*4+r*4=j*4 by omega];exact⟨(h3 i hiy uAu).range h1,(h3 j hjy uAu).range h1⟩
       have HW:Hid (Below wr.heap.size wr wr.drew):=bE wr;have HBE:Hid (unP L (i+1)=if b=true then unP L i else unP L i++[L[i]]):=by
         show _=_;subst hj;rw[aET L hiL,hb];by_cases h0:eC L[j+1] L[j]=0
         ·rw[if_pos h0,if_pos (kL.2 h0)]
         ·rw[if_neg h0,if_neg (fun e=>h0 (kL.1 e))]
       have HVI:Hid (VAt (fun g=>g<n0) w L[i] ys[i]):=hvi;have HYK:=aJ hyk;have HI:=aJ (And.intro hi (And.intro hiL hiy));have HQ:=aJ (And.intro hq1 (And.intro hq hmi));have hm4:(m:Int)<=1000:=by have:=HNL.out;omega
       have hm0:(0:Int)<=(m:Int):=by omega
       have hmN:(m:Int)<(N:Int):=by have:=HNL.out;omega
       clear hr hj hjL hjy hyk hyp hb hvi hvj hi hq1 hqN hq hmi;go_upto_region 11 with fail
       refine bL (S:=(fun V=>V.rangeAt B (k*4+q*4) (aX yk).toList/\V.rangeAt B (k*4+r*4) (aX yp).toList)) [] hO uAw (fun hHeld=> ?_);refine aI (i:=0) (oi:=⟨some 38,_,_,_,_,_⟩) (v:=?vg2_0) rfl hO hO hO hO (fun _ _ _ h=>h) (Or.inl ⟨by rfl,?hg2_0⟩) uAx ?rg2_0
       case hg2_0=>(intro w hSw;(try dsimp only at hSw);first|(go_simp;done)|(go_simp;with_reducible rfl))
       (try simp only[Act.put,aA,aB,aC]);refine aI (i:=1) (oi:=⟨some 39,_,_,_,_,_⟩) (v:=?vg2_1) rfl hO hO hO hO (fun _ _ _ h=>h) (Or.inl ⟨by rfl,?hg2_1⟩) uAx ?rg2_1
       case hg2_1=>(intro w hSw;(try dsimp only at hSw);first|(go_simp;done)|(go_simp;with_reducible rfl))
       (try simp only[Act.put,aA,aB,aC]);refine aI (i:=2) (oi:=⟨some 40,_,_,_,_,_⟩) (v:=?vg2_2) rfl hO hO hO hO (fun _ _ _ h=>h) (Or.inl ⟨by rfl,?hg2_2⟩) uAx ?rg2_2
       case hg2_2=>(intro w hSw;(try dsimp only at hSw);first|(go_simp;done)|(go_simp;with_reducible rfl))
       (try simp only[Act.put,aA,aB,aC]);refine aI (i:=3) (oi:=⟨some 41,_,_,_,_,_⟩) (v:=?vg2_3) rfl hO hO hO hO (fun _ _ _ h=>h) (Or.inl ⟨by rfl,?hg2_3⟩) uAx ?rg2_3
       case hg2_3=>(intro w hSw;(try dsimp only at hSw);first|(go_simp;done)|(go_simp;with_reducible rfl))
       (try simp only[Act.put,aA,aB,aC]);refine aI (i:=4) (oi:=⟨some 42,_,_,_,_,_⟩) (v:=_) rfl hO hO hO hO (fun _ _ _ h=>h) (bT uAz 35 _ rfl B (k*4+q*4) rfl (aX yk) _ (fun w hw=>hw.1) Tryz.underlying35 rfl uFz) uAx ?_;(try simp only[Act.put,aA,aB,aC]);refine aI (i:=5) (oi:=⟨some 43,_,_,_,_,_⟩) (v:=?vg2_5) rfl hO hO hO hO (fun _ _ _ h=>h) (Or.inl ⟨by rfl,?hg2_5⟩) uAx ?rg2_5
       case hg2_5=>(intro w hSw;(try dsimp only at hSw);first|(go_simp;done)|(go_simp;with_reducible rfl))
       (try simp only[Act.put,aA,aB,aC]);refine aI (i:=6) (oi:=⟨some 44,_,_,_,_,_⟩) (v:=?vg2_6) rfl hO hO hO hO (fun _ _ _ h=>h) (Or.inl ⟨by rfl,?hg2_6⟩) uAx ?rg2_6
       case hg2_6=>(intro w hSw;(try dsimp only at hSw);first|(go_simp;done)|(go_simp;with_reducible rfl))
       (try simp only[Act.put,aA,aB,aC]);refine aI (i:=7) (oi:=⟨some 45,_,_,_,_,_⟩) (v:=(.int .i64 (r:Int))) rfl hO hO hO hO (fun _ _ _ h=>h) (Or.inl ⟨by rfl,?hg2_7⟩) uAx ?rg2_7
       case hg2_7=>(intro w hSw;(try dsimp only at hSw);first|(go_simp;done)|(go_simp;rw[hwk];done)|(go_simp;simp[hwk]))
       (try simp only[Act.put,aA,aB,aC]);refine aI (i:=8) (oi:=⟨some 46,_,_,_,_,_⟩) (v:=?vg2_8) rfl hO hO hO hO (fun _ _ _ h=>h) (Or.inl ⟨by rfl,?hg2_8⟩) uAx ?rg2_8
       case hg2_8=>(intro w hSw;(try dsimp only at hSw);first|(go_simp;done)|(go_simp;with_reducible rfl))
       (try simp only[Act.put,aA,aB,aC]);refine aI (i:=9) (oi:=⟨some 47,_,_,_,_,_⟩) (v:=_) rfl hO hO hO hO (fun _ _ _ h=>h) (bT uAz 35 _ rfl B (k*4+r*4) rfl (aX yp) _ (fun w hw=>hw.2) Tryz.underlying35 rfl uFz) uAx ?_;(try simp only[Act.put,aA,aB,aC]);refine jE (i:=10) (o:=⟨some 48,_,_,_,_,_⟩) hO rfl (fun K hK=> ?_);go_simp;go_at_call 15;(with_reducible refine(HSM.out _ uBy).mono ?_);rintro r w3 ⟨rfl,hb⟩;replace HW:=aJ (HW.out.trans (hb.mono HW.out.size));clear hb;dsimp only;refine hK.out _ _ uAw (fun hHeld=> ?_);clear hK K;(try simp only[Act.put,aA,aB,aC]);refine aI (i:=11) (oi:=⟨some 49,_,_,_,_,_⟩) (v:=?vg2_11) rfl hO hO hO hO (fun _ _ _ h=>h) (Or.inl ⟨by rfl,?hg2_11⟩) uAx ?rg2_11
       case hg2_11=>(intro w hSw;(try dsimp only at hSw);first|(go_simp;done)|(go_simp;with_reducible rfl))
       (try simp only[Act.put,aA,aB,aC]);refine bK hO ?_ _;clear hHeld hwk HSM;cases b with
       |true=>
        have HUE:Hid (unP L (i+1)=unP L i):=HBE.out.trans (if_pos rfl);clear HBE;go_wp2_with fail
        go_roundw
        case rel=>exact⟨q+1,i+1,by omega,by have:=HQ.out;omega,by have:=HI.out;omega,by go_num,by rw[HUE.out,HM.out],by rw[HUE.out,<-HM.out];have:=HQ.out;omega,(HU.out.later HW.out).skip HUE.out,HB4.out.trans (HW.out.mono (aG HNW.out HB4.out.size))⟩
        case measure=>have:=HQ.out;simp[intOf];omega
       |false=>
        have HUE:Hid (unP L (i+1)=unP L i++[L[i]]):=HBE.out.trans (if_neg uAv);clear HBE;have hrg:=(HKS.out _ HW.out).1;have HRG:=aJ hrg;obtain⟨cu,zs,h1,h2,h3,h4,h5⟩:=HU.out.later HW.out;have HX5:=aJ h1;have HZ5:Hid (m*4+(aX yk).size<=cu.size):=by
          have e:(aX yk).size=4:=rfl;have:=HNL.out;show _<=_;omega
        have HK5:Hid (∀W',W'.heap[B]? =some (.cells (cu.toList.take (m*4)++(aX yk).toList++cu.toList.drop (m*4+(aX yk).size)).toArray 35 (0,0))->jK B w3 W'->xU n0 B cap L ys (i+1) W'):=fun W' hw ho=>by
          have hbV:Below n0 w w3:=HB4.out.trans (HW.out.mono (aG HNW.out HB4.out.size));rw[HYK.out]at hw;exact xU.keep HI.out.2.1 HI.out.2.2 HNL.out.2.2.2.2.2.2 HM.out HQ.out.2.2 (by rw[<-HNL.out.1];exact HNL.out.2.2.2.2.1) h1 h2 h3 h4 h5 (HVI.out.low hbV) HUE.out hw ho
        have HB5:Hid (Below n0 w w3):=HB4.out.trans (HW.out.mono (aG HNW.out HB4.out.size));clear hrg h1 h2 h3 h4 h5 HU HB4 HKS HW;go_wp2_with (first
          |(refine oU uAz _ rfl B (k*4+q*4) rfl (aX yk) HRG.out rfl ?_)
          |(refine cW rfl fun _ hK=>zV 35 _ _ rfl B (m*4) (aX yk) rfl rfl 35 cu HX5.out aR HZ5.out (eU _) _ rfl fun w6 h6 k6=>hK _ _ ?_;have HU6:=aJ (HK5.out w6 h6 k6);have HB6:Hid (Below n0 w w6):=HB5.out.trans (k6.below HNL.out.2.2.2.2.2.2);clear h6 k6))
        go_roundw
        case rel=>exact⟨q+1,i+1,by omega,by have:=HQ.out;omega,by have:=HI.out;omega,by go_num,by rw[HUE.out,aD,<-HM.out];go_num,by rw[HUE.out,aD,<-HM.out];have:=HQ.out;simp;omega,HU6.out,HB6.out⟩
        case measure=>have:=HQ.out;simp[intOf];omega
theorem aKQ (l:List Tr) (v:Value) (w:World) (hv:lU (fun _=>True) w v l) (hlen:l.length<=12) (hvb:∀x∈l,dW x) (hT:fW w):
    Calls Tryz.prog 23 #[v] w fun r w'=>∃u n0,r=.returned u/\w.heap.size<=n0/\gV n0 (fun g=>g<n0) w' u (fT l)/\Below w.heap.size w w':=by
  have HKO:=aJ (vM l v w hv uAu hT);have HV:=aJ hv;have HGD:Hid (∀x∈l,jR x):=fun x hx=>(hvb x hx).1.1
  have HLN:=aJ hlen;clear hv hvb hT hlen;go_enter Tryz.func23,Tryz.ntmps23;go_upto_region 2 with(go_at_call 52;(with_reducible refine(HKO.out).mono ?_);rintro r w1 ⟨u,rfl,hu,hb⟩;obtain⟨ua,uc,rfl⟩:=hu.shape';have HU:=aJ hu;have HB:=aJ hb;clear hu hb)
  obtain⟨u,hu⟩:∃u,u=Value.slice ua (tN l).length uc:=⟨_,rfl⟩
  rw[<-hu]at HU ⊢;obtain⟨X,hX⟩:∃X,X=w1.heap.size:=⟨_,rfl⟩
  obtain⟨w2,hw2⟩:∃w2,w2=w1.alloc (.cells #[u] 25):=⟨_,rfl⟩
  have hb2:Below w1.heap.size w1 w2:=by rw[hw2];exact Below.newly' _ _
  have hx2:w2.heap[X]? =some (.cells #[u] 25 (0,0)):=by rw[hw2,hX];exact aF _ _
  have hbw:Below w.heap.size w w2:=HB.out.trans (hb2.mono HB.out.size);have hu2:=HU.out.later hb2;have HLA:=aJ (aHG l v w2 X (HV.out.later hbw) HLN.out HGD.out (fun W hW i k hi hk=>aFr l X u W ((hW.block _ (Array.getElem?_eq_some_iff.1 hx2).1).trans hx2) (hu2.later hW) i k hi hk uIv));have HB2:=aJ hbw;rw[<-hw2,<-hX];clear hw2 hX hb2 hx2 hbw hu2 HU hu HKO HB;go_wp2_with (go_at_call 53;(with_reducible refine(HLA.out).mono ?_);rintro r w3 ⟨y,rfl,hy,hb⟩;have HY:=aJ hy;have HB3:=aJ hb;clear hy hb)
  go_ret;have hbb:=HB2.out.trans (HB3.out.mono HB2.out.size);exact⟨_,_,rfl,HB2.out.size,HY.out,hbb⟩
theorem aMI (l:List Tr) (v:Value) (w:World) (hv:lU (fun _=>True) w v l) (hlen:l.length<=12) (hvb:∀x∈l,dW x) (hT:fW w):
    Calls Tryz.prog 26 #[v] w fun r w'=>∃u,r=.returned u/\lU (fun _=>True) w' u (aB9 l)/\lU (fun _=>True) w' v l/\Below w.heap.size w w':=by
  have HSO:=aJ (aKQ l v w hv hlen hvb hT);have HV:=aJ hv;have hg0:1<w.heap.size:=aM w _ (hT 0 uAv);have HG:=aJ hg0;have HSV:Hid (∀x∈fT l,dW x):=fun x hx=>hvb x ((jL _).mem_iff.1 hx)
  have HSL:Hid ((fT l).length<=12):=by show _<=_;rw[qD];exact hlen
  have HT:=aJ hT;clear hv hlen hvb hT hg0;go_enter Tryz.func26,Tryz.ntmps26;go_wp2_with (first
    |(go_at_call 23;(with_reducible refine(HSO.out).mono ?_);rintro r w1 ⟨u,n0,rfl,hn,hu,hb⟩;have HU:=aJ hu;have HB:=aJ hb;have HN:=aJ hn;clear hu hb hn)
    |(go_at_call 55;(with_reducible refine(aNR (fT l) n0 u w1 HU.out HSV.out (aG HSL.out uAv) (HT.out.below HB.out) (cQ HG.out HN.out)).mono ?_);rintro r w2 ⟨y,rfl,hy,hb⟩;have HY:=aJ hy;have HB2:=aJ hb;clear hy hb))
  go_ret;have hbb:Below w.heap.size w w2:=HB.out.trans (HB2.out.mono HN.out);refine⟨_,rfl,?_,HV.out.later hbb,hbb⟩;rw[<-aHs];exact HY.out
end Go.Proofs.YtengibnpebfblaaGreatDoor
