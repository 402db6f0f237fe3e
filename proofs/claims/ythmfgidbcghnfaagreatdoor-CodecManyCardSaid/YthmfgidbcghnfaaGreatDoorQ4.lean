import Derived.Test.YthmfgidbcghnfaaGreatDoorQ0
import Derived.Test.YthmfgidbcghnfaaGreatDoorQ2
set_option maxRecDepth 1000000
set_option maxHeartbeats 8000000
set_option linter.unusedSimpArgs false
namespace Go.Proofs.YthmfgidbcghnfaaGreatDoor
open Go.RowKit Go.Extern.Stop Go.Stop Go.Extern
theorem dU {w:World} {a:Addr} {v:Value} (h:w.cell? a=some v) (o:Obj):(w.alloc o).cell? a=some v:=by
 rw[World.cell?_alloc_lt _ _ a (aO w a h)];exact h
theorem iC {w:World} {a:Addr} {v:Value} (h:w.cell? a=some v) (hf:w.frozen? a=false) (o:Obj):(w.alloc o).frozen? a=false:=by
 rw[World.frozen?_alloc_old _ _ a (Nat.ne_of_lt (aO w a h))];exact hf
theorem aSm (v:Value) (xT:TypeId) (w:World):(Instr.typeAssert (.iface 120 v) xT 225 true).run Tryz.prog w=.ok (.tuple #[.iface 120 v,.bool true]) w:=aGw Tryz.underlying225 uAu v xT w
theorem un_l (v:Value) (xT:TypeId) (w:World):(Instr.typeAssert (.iface 120 v) xT 228 true).run Tryz.prog w=.ok (.tuple #[.iface 120 v,.bool true]) w:=aGw Tryz.underlying228 uAu v xT w
theorem un_p (v:Value) (xT:TypeId) (w:World):(Instr.typeAssert (.iface 152 v) xT 228 true).run Tryz.prog w=.ok (.tuple #[.iface 152 v,.bool true]) w:=aGw Tryz.underlying228 uAu v xT w
theorem un_c (v:Value) (xT:TypeId) (w:World):(Instr.typeAssert (.iface 31 v) xT 228 true).run Tryz.prog w=.ok (.tuple #[.nilIface,.bool false]) w:=run_typeAssert_lacksB Tryz.underlying228 uAu uAu v xT w
theorem aFU (v:Value) (w:World):(Go.method 484 152 v "Unwrap").run Tryz.prog w=.ok (312,v) w:=by kernel_rfl
theorem tZ (v:Value) (w:World):(Go.method 484 120 v "Unwrap").run Tryz.prog w=.ok (307,v) w:=by kernel_rfl
theorem zG (v:Value) (w:World):(Go.method 484 120 v "As").run Tryz.prog w=.ok (306,v) w:=by kernel_rfl
theorem aSU (w:World):(Instr.typeAssert .nilIface 45 228 true).run Tryz.prog w=.ok (.tuple #[.nilIface,.bool false]) w:=by kernel_rfl
theorem aSX (w:World):(Instr.typeAssert .nilIface 45 152 true).run Tryz.prog w=.ok (.tuple #[.pointer none,.bool false]) w:=by kernel_rfl
theorem aSA (v:Value) (w:World):(Instr.typeAssert (.iface 121 v) 20 121 true).run Tryz.prog w=.ok (.tuple #[v,.bool true]) w:=by kernel_rfl
theorem aNG (v:Value) (w:World):(Instr.typeAssert (.iface 177 v) 20 121 true).run Tryz.prog w=.ok (.tuple #[.pointer none,.bool false]) w:=by kernel_rfl
theorem aNF (v:Value) (w:World):(Instr.typeAssert (.iface 177 v) 20 177 true).run Tryz.prog w=.ok (.tuple #[v,.bool true]) w:=by kernel_rfl
theorem tt_cc (v:Value) (w:World):(Instr.typeAssert (.iface 31 v) 45 31 true).run Tryz.prog w=.ok (.tuple #[v,.bool true]) w:=by kernel_rfl
theorem tt_pc (v:Value) (w:World):(Instr.typeAssert (.iface 152 v) 45 31 true).run Tryz.prog w=.ok (.tuple #[.int .i64 0,.bool false]) w:=by kernel_rfl
theorem tt_pp (v:Value) (w:World):(Instr.typeAssert (.iface 152 v) 45 152 true).run Tryz.prog w=.ok (.tuple #[v,.bool true]) w:=by kernel_rfl
theorem tt_cp (v:Value) (w:World):(Instr.typeAssert (.iface 31 v) 45 152 true).run Tryz.prog w=.ok (.tuple #[.pointer none,.bool false]) w:=by kernel_rfl
theorem aRT (b:Nat) (U:Value) (w:World) (hc:w.cell? ⟨b,1,none⟩=some U):Calls Tryz.prog 312 #[.pointer (some ⟨b,0,none⟩)] w fun e w'=>e=.returned U/\w'=w:=by
 go_enter Tryz.func312,Tryz.ntmps312;go_wp2
 go_ret;exact⟨rfl,rfl⟩
theorem aI8 (w:World):Calls Tryz.prog 308 #[.nilIface] w fun e w'=>e=.returned .nilIface/\w'=w:=by
 have H:=aSU;exact Al8
theorem aMN (c:Int) (w:World):Calls Tryz.prog 308 #[.iface 31 (.int .i64 c)] w fun e w'=>e=.returned .nilIface/\w'=w:=by
 have H:=un_c;exact Al8
theorem aET (b:Nat) (U:Value) (w:World) (hc:w.cell? ⟨b,1,none⟩=some U):Calls Tryz.prog 308 #[.iface 152 (.pointer (some ⟨b,0,none⟩))] w fun e w'=>e=.returned U/\w'=w:=by
 have H:=un_p;have M:=aFU;go_enter Tryz.func308,Tryz.ntmps308;go_wp2_with fail
 refine(aRT b U w hc).mono ?_;exact Af5
theorem aHJ (w:World):Calls Tryz.prog 307 #[.agg #[.nilIface]] w fun e w'=>e=.returned .nilIface/\w'=w.alloc (.cells #[.nilIface] 120):=by
 go_enter Tryz.func307,Tryz.ntmps307;go_wp2_with fail
 refine(aI8 _).mono ?_;exact Af5
theorem aMq (c:Int) (w:World):Calls Tryz.prog 307 #[.agg #[.iface 31 (.int .i64 c)]] w fun e w'=>e=.returned .nilIface/\w'=w.alloc (.cells #[.iface 31 (.int .i64 c)] 120):=by
 go_enter Tryz.func307,Tryz.ntmps307;go_wp2_with fail
 refine(aMN _ _).mono ?_;exact Af5
theorem aDV (b:Nat) (w:World) (hc:w.cell? ⟨b,1,none⟩=some .nilIface):
  Calls Tryz.prog 307 #[.agg #[.iface 152 (.pointer (some ⟨b,0,none⟩))]] w fun e w'=>e=.returned .nilIface/\w'=w.alloc (.cells #[.iface 152 (.pointer (some ⟨b,0,none⟩))] 120):=by
 have He:=dU hc (.cells #[.iface 152 (.pointer (some ⟨b,0,none⟩))] 120);go_enter Tryz.func307,Tryz.ntmps307;go_wp2_with fail
 refine(aET b _ _ He).mono ?_;rintro e w1 ⟨rfl,rfl⟩;go_wp2_with fail
 go_ret;exact⟨rfl,rfl⟩
theorem aMp (b:Nat) (u:TypeId) (x:Value) (w:World) (hc:w.cell? ⟨b,1,none⟩=some (.iface u x)):
  Calls Tryz.prog 307 #[.agg #[.iface 152 (.pointer (some ⟨b,0,none⟩))]] w fun e w'=>e=.returned (.iface 120 (.agg #[.iface u x]))/\w'=w.alloc (.cells #[.iface 152 (.pointer (some ⟨b,0,none⟩))] 120):=by
 have He:=dU hc (.cells #[.iface 152 (.pointer (some ⟨b,0,none⟩))] 120);go_enter Tryz.func307,Tryz.ntmps307;go_wp2_with fail
 refine(aET b _ _ He).mono ?_;rintro e w1 ⟨rfl,rfl⟩;go_wp2_with fail
 go_ret;exact⟨rfl,rfl⟩
theorem aKC (p t:Addr) (w:World):Calls Tryz.prog 306 #[.agg #[.iface 152 (.pointer (some p))],.iface 121 (.pointer (some t))] w fun e w'=>e=.returned (.bool false)/\w'=w.alloc (.cells #[.iface 152 (.pointer (some p))] 120):=by
 have T0:=aSA;have T1:=tt_pc;exact Ai1
theorem aRF (c:Int) (t:Addr) (old:Value) (w:World) (ht:w.cell? t=some old) (hf:w.frozen? t=false):
  Calls Tryz.prog 306 #[.agg #[.iface 31 (.int .i64 c)],.iface 121 (.pointer (some t))] w fun e w'=>e=.returned (.bool true)/\w'=(w.alloc (.cells #[.iface 31 (.int .i64 c)] 120)).setCell t (.int .i64 c):=by
 have D6:=dU ht (.cells #[.iface 31 (.int .i64 c)] 120);have Ty:=iC ht hf (.cells #[.iface 31 (.int .i64 c)] 120);have T0:=aSA;have T1:=tt_cc;go_enter Tryz.func306,Tryz.ntmps306;go_wp2
 go_ret;exact⟨rfl,rfl⟩
theorem aMr (t:Addr) (w:World):Calls Tryz.prog 306 #[.agg #[.nilIface],.iface 177 (.pointer (some t))] w fun e w'=>e=.returned (.bool false)/\w'=w.alloc (.cells #[.nilIface] 120):=by
 have T0:=aNG;have T1:=aNF;have T2:=aSX;exact Ai1
theorem aRE (c:Int) (t:Addr) (w:World):Calls Tryz.prog 306 #[.agg #[.iface 31 (.int .i64 c)],.iface 177 (.pointer (some t))] w fun e w'=>e=.returned (.bool false)/\w'=w.alloc (.cells #[.iface 31 (.int .i64 c)] 120):=by
 have T0:=aNG;have T1:=aNF;have T2:=tt_cp;exact Ai1
theorem aRD (p t:Addr) (old:Value) (w:World) (ht:w.cell? t=some old) (hf:w.frozen? t=false):
  Calls Tryz.prog 306 #[.agg #[.iface 152 (.pointer (some p))],.iface 177 (.pointer (some t))] w fun e w'=>e=.returned (.bool true)/\w'=(w.alloc (.cells #[.iface 152 (.pointer (some p))] 120)).setCell t (.pointer (some p)):=by
 have D6:=dU ht (.cells #[.iface 152 (.pointer (some p))] 120);have Ty:=iC ht hf (.cells #[.iface 152 (.pointer (some p))] 120);have T0:=aNG;have T1:=aNF;have T2:=tt_pp;go_enter Tryz.func306,Tryz.ntmps306;go_wp2
 go_ret;exact⟨rfl,rfl⟩
def lV (W:World) (s:Nat) (v:Value) (F:Nat->Value) (n:Nat):Prop:=∃(a:Option Addr) (cap:Nat),v=.slice a n cap/\(0<n->∃ad,a=some ad/\∀j,j<n*s->W.cell? (ad.add j)=some (F j))
def lK (S:Nat->Prop) (W:World) (T:TypeId) (s:Nat) (v:Value) (F:Nat->Value) (n:Nat):Prop:=
 (n=0/\v=.slice none 0 0)\/(0<n/\∃(g c:Nat) (cs:Array Value) (fr:Nat×Nat),v=.slice (some ⟨g,0,none⟩) n c/\n<=c/\S g/\W.heap[g]? =some (.cells cs T fr)/\∀j,j<n*s->cs[j]? =some (F j))
section
variable {S S' : Nat → Prop} {W W' : World} {T : TypeId} {s n : Nat} {v : Value} {F G : Nat → Value}
theorem lK.none (S:Nat->Prop) (W:World) (T:TypeId) (s:Nat) (F:Nat->Value):lK S W T s (.slice .none 0 0) F 0:=.inl ⟨rfl,rfl⟩
theorem lK.weak (h:lK S W T s v F n) (hs:∀g,S g->S' g):lK S' W T s v F n:=by
 rcases h with h|⟨h0,g,c,cs,fr,h1,h2,h3,h4⟩
 ·exact .inl h
 ·exact .inr ⟨h0,g,c,cs,fr,h1,h2,hs g h3,h4⟩
theorem lK.old (h:lK S W T s v F n):lK (fun g=>S g/\g<W.heap.size) W T s v F n:=by
 rcases h with h|⟨h0,g,c,cs,fr,h1,h2,h3,h4,h5⟩
 ·exact .inl h
 ·exact .inr ⟨h0,g,c,cs,fr,h1,h2,⟨h3,(gZ h4)⟩,h4,h5⟩
theorem lK.kept {row:Option Nat} (h:lK S W T s v F n) (hg:W.grownBy W' row) (hr:∀X,row=some X->¬S X):lK S W' T s v F n:=by
 rcases h with h|⟨h0,g,c,cs,fr,h1,h2,h3,h4,h5⟩
 ·exact .inl h
 ·exact .inr ⟨h0,g,c,cs,fr,h1,h2,h3,(hg.block g (gZ h4) (fun e=>hr g e.symm h3)).trans h4,h5⟩
theorem lK.keptT {row:Option Nat} (h:lK S W T s v F n) (hg:W.grownBy W' row) (hT:∀X,row=some X->∃o:Obj,W.heap[X]? =some o/\∀cs fr,o≠.cells cs T fr):lK S W' T s v F n:=by
 rcases h with h|⟨h0,g,c,cs,fr,h1,h2,h3,h4,h5⟩
 ·exact .inl h
 ·refine .inr ⟨h0,g,c,cs,fr,h1,h2,h3,(hg.block g (gZ h4) (fun e=> ?_)).trans h4,h5⟩
  exact Ak4
theorem lK.later (h:lK S W T s v F n) (hb:Below W.heap.size W W'):lK S W' T s v F n:=
 h.kept (row:=.none) ⟨hb.os,hb.tape,hb.output,hb.size,fun k hk _=>hb.block k hk⟩ (fun _ e=>by cases e)
theorem lK.congr (h:lK S W T s v F n) (e:∀j,j<n*s->F j=G j):lK S W T s v G n:=by
 rcases h with h|⟨h0,g,c,cs,fr,h1,h2,h3,h4,h5⟩
 ·exact .inl h
 ·exact .inr ⟨h0,g,c,cs,fr,h1,h2,h3,h4,fun j hj=>by rw[<-e j hj];exact h5 j hj⟩
theorem lK.places (h:lK S W T s v F n):lV W s v F n:=by
 rcases h with⟨rfl,rfl⟩|⟨h0,g,c,cs,fr,rfl,h2,h3,h4,h5⟩
 ·exact⟨_,0,rfl,fun h=>absurd h hO⟩
 ·refine⟨_,c,rfl,fun _=>⟨_,rfl,fun j hj=> ?_⟩⟩
  rw[rE,eA];exact aG h4 (h5 j hj)
theorem lK.shape (h:lK S W T s v F n):∃a c,v=.slice a n c/\n<=c:=by
 rcases h with⟨rfl,rfl⟩|⟨_,g,c,_,_,rfl,h,_⟩
 ·exact⟨_,0,rfl,aA _⟩
 ·exact⟨_,c,rfl,h⟩
theorem lK.pos (h:lK S W T s v F n) (h0:0<n):∃(g c:Nat) (cs:Array Value) (fr:Nat×Nat),v=.slice (some ⟨g,0,.none⟩) n c/\n<=c/\S g/\W.heap[g]? =some (.cells cs T fr)/\∀j,j<n*s->cs[j]? =some (F j):=by
 rcases h with⟨rfl,_⟩|⟨_,h⟩
 ·omega
 ·exact h
theorem lV.later (h:lV W s v F n) (hb:Below W.heap.size W W'):lV W' s v F n:=by
 obtain⟨a,cap,rfl,h2⟩:=h;refine⟨a,cap,rfl,fun h0=> ?_⟩;obtain⟨ad,rfl,hc⟩:=h2 h0;exact⟨ad,rfl,fun j hj=>(hb.cell (p:=ad.add j) (aO W _ (hc j hj))).trans (hc j hj)⟩
theorem lV.congr (h:lV W s v F n) (e:∀j,j<n*s->F j=G j):lV W s v G n:=by
 obtain⟨a,cap,rfl,h2⟩:=h;refine⟨a,cap,rfl,fun h0=> ?_⟩;obtain⟨ad,rfl,hc⟩:=h2 h0;exact⟨ad,rfl,fun j hj=>by rw[<-e j hj];exact hc j hj⟩
end
def fi (f:Nat->Int):Nat->Value:=fun j=>.int .i64 (f j)
theorem aHO (zs:List Int) (j:Nat) (h:j<zs.length):(iv zs)[j]? =some (.int .i64 (zs.getD j 0)):=by
 rw[iv,List.getElem?_map,List.getElem?_eq_getElem h,List.getD_eq_getElem?_getD,List.getElem?_eq_getElem h];rfl
theorem aF3.places {W:World} {v:Value} {zs:List Int} (h:aF3 W v zs):lV W 1 v (fi fun i=>zs.getD i 0) zs.length:=by
 obtain⟨a,cap,rfl,h2⟩:=h;refine⟨a,cap,rfl,fun h0=> ?_⟩;obtain⟨ad,rfl,hc⟩:=h2 h0;exact⟨ad,rfl,fun j hj=>hc j _ (aHO zs j hO)⟩
section
variable {P : Program}
theorem nI (w:World) {ops:Array Oper} {rest:List Oper} {o:Oper} {a:Act} {Q:Exit->Act->World->Prop} (hg:o.guard=none) (l c:Operand) (t:TypeId) (Pi:o.op=Op.makeSlice t l c)
  (e:TypeId) (i:TypeInfo) (z:Value) (s:Nat) (ht:P.underlying t=some (.slice e)) (hi:P.info? e=some i) (hz:i.zero=some z) (qd:i.size=s)
  (kl kc:IntKind) (n:Nat) (hl:a.eval l=.int kl (n:Int)) (hc:a.eval c=.int kc (n:Int)) (eu:i.bytes*n<=281474976710656) (Ci:n<=9223372036854775807)
  (hK:wpList P ops Q rest (a.put o.dst (.slice (some ⟨w.heap.size,0,none⟩) n n)) (w.alloc (.cells (madeCells z.cells (n*s)) e))):wpList P ops Q (o::rest) a w:=by
 subst qd;refine gC hg fun K K8=> ?_
 have cr:=run_make (P:=P) w t e i z ht hi hz kl kc n n hO (Int.le_refl _) (by
  have h:((i.bytes*n:Nat):Int)<=281474976710656:=by omega
  rwa[Int.natCast_mul]at h) hO
 simp only[kM]at cr;unfold Oper.wp;simp[execOp,Pi,hl,hc,cr,Result.andThen];exact K8 _ _ hK
theorem aBe (w:World) (g o:Nat) (T ty:TypeId) (aj:Array Value) (v:Value) (vs:List Value) (hv:v.cells=vs.toArray) (hg:w.heap[g]? =some (.cells aj T (0,0))) (hk:o+vs.length<=aj.size)
  (hi:(P.info? ty).map (·.size)=some vs.length) (h1:∀x∈vs,x.oneCell'=true):
  (storeVar ty ⟨g,o,none⟩ v).run P w=.ok () (w.setRow g (aj.toList.take o++vs++aj.toList.drop (o+vs.length)).toArray):=by
 have:=lZ (P:=P) g o T vs 0 aj w hg uKw h1;cases hq:P.info? ty with
 |none=>simp[hq]at hi
 |some i=>
  have hs:i.size=vs.length:=by simpa[hq]using hi
  simp only[jV]at this;simp[storeVar,sizeOf,typeInfo,hq,hv,hs,this]
theorem aKB (aj:Array Value) (o:Nat) (vs:List Value) (hk:o+vs.length<=aj.size) (j:Nat):
  (aj.toList.take o++vs++aj.toList.drop (o+vs.length)).toArray[j]? =if o<=j/\j<o+vs.length then vs[j-o]? else aj[j]? :=by
 have hl:(aj.toList.take o).length=o:=by simp;omega
 rw[List.getElem?_toArray,bG];by_cases h1:j<o
 ·rw[if_neg hO,List.getElem?_append_left hO,List.getElem?_take_of_lt h1,Array.getElem?_toList]
 ·rw[List.getElem?_append_right hO,hl]
  by_cases h2:j<o+vs.length
  ·rw[if_pos ⟨by omega,h2⟩,List.getElem?_append_left hO]
  ·rw[if_neg hO,List.getElem?_append_right hO,List.getElem?_drop,Array.getElem?_toList]
   congr 1
   omega
theorem aEB (aj:Array Value) (o:Nat) (vs:List Value) (hk:o+vs.length<=aj.size):(aj.toList.take o++vs++aj.toList.drop (o+vs.length)).toArray.size=aj.size:=by simp;omega
theorem vE {w:World} {ops:Array Oper} {rest:List Oper} {o:Oper} {a:Act} {Q:Exit->Act->World->Prop} (fj:o.guard=none) (ty:TypeId) (x y:Operand) (ho:o.op=.store ty x y)
  (g k:Nat) (hx:a.eval x=.pointer (some ⟨g,k,none⟩)) (cells:Array Value) (hy:a.eval y=.agg cells) (T:TypeId) (aj:Array Value) (hg:w.heap[g]? =some (.cells aj T (0,0)))
  (hi:(P.info? ty).map (·.size)=some cells.size) (hk:k+cells.size<=aj.size) (h1:cells.all (·.oneCell')=true)
  (h:∀w' tl,w'.heap[g]? =some (.cells tl T (0,0))->tl.size=aj.size->(∀j,tl[j]? =if k<=j/\j<k+cells.size then cells[j-k]? else aj[j]?)->iL g w w'->wpList P ops Q rest (a.put o.dst undef) w'):wpList P ops Q (o::rest) a w:=
 gC fj fun _ hK=>by
  have cr:=aBe (P:=P) w g k T ty aj (.agg cells) cells.toList (by simp[Value.cells]) hg uKw (by simpa using hi) (fun v hv=>(cD.1 h1) v (by simpa using hv));unfold Oper.wp execOp;simp only[ho,hx,hy,Instr.storeAt,Instr.sureAddr,eG,eZ,cR,cr];refine hK _ _ (h _ _ (lY w g _ _ _ _ hg) (aEB aj k cells.toList uKw) (fun j=> ?_) (iI _ _ _));rw[aKB aj k cells.toList uKw j];simp
theorem aJ6 (w:World) (dT sT ty elem:TypeId) (g ly r9 s:Nat) (a:Addr) (Cj D7:Nat) (aj:Array Value) (t:TypeId) (cs:List Value)
  (hu:P.underlying dT=some (.slice elem)) (hs:(P.info? elem).map (·.size)=some s)
  (hg:w.heap[g]? =some (.cells aj t (0,0))) (dx:Cj<=ly) (hn:cs.length=Cj*s)
  (K9:∀j v,cs[j]? =some v->w.cell? (a.add j)=some v) (u9:cs.length<=aj.size) (h1:∀v∈cs,v.oneCell'=true):
  (Builtin.copy_ #[dT,sT] ty #[.slice (some ⟨g,0,none⟩) ly r9,.slice (some a) Cj D7]).run P w=
   .ok (goInt Cj) (w.setRow g (aj.toList.take 0++cs++aj.toList.drop (0+cs.length)).toArray):=by
 have hl:=aII (P:=P) w a cs K9;have df:=lZ P g 0 t cs 0 aj w hg (by simpa using u9) h1;have Aa:Nat.min Cj ly=Cj:=fT dx;cases hq:P.info? elem with
 |none=>simp[hq]at hs
 |some i=>
  have hi:i.size=s:=by simpa[hq]using hs
  rw[hn]at hl;simp only[jV,eA]at df ⊢;simp[Builtin.copy_,jY hu,Builtin.lenOf,Builtin.firstCells,sizeOf,typeInfo,hq,hi,Aa,hl,df]
theorem aAP (w:World) (dT sT ty elem:TypeId) (d sp:Option Addr) (ly r9 s D7:Nat) (hu:P.underlying dT=some (.slice elem)) (hs:(P.info? elem).map (·.size)=some s):
  (Builtin.copy_ #[dT,sT] ty #[.slice d ly r9,.slice sp 0 D7]).run P w=.ok (goInt 0) w:=by
 have Aa:Nat.min 0 ly=0:=Nat.zero_min _;cases hq:P.info? elem with
 |none=>simp[hq]at hs
 |some i=>
  cases d<;>cases sp<;>simp[Builtin.copy_,jY hu,Builtin.lenOf,Builtin.firstCells,sizeOf,typeInfo,hq,Aa,storeCells,loadCells,loadCellsFrom,Result.andThen]
theorem aDx {w:World} {ops:Array Oper} {rest:List Oper} {o:Oper} {a:Act} {Q:Exit->Act->World->Prop} (fj:o.guard=none) (d x:Operand) (dT sT:TypeId)
  (ho:o.op=.call {callee:=.builtin .copy,args:=#[d,x],argTypes:=#[dT,sT]}) (elem:TypeId) (hu:P.underlying dT=some (.slice elem)) (s:Nat) (de:(P.info? elem).map (·.size)=some s)
  (g ly r9:Nat) (hd:a.eval d=.slice (some ⟨g,0,none⟩) ly r9) (v:Value) (hv:a.eval x=v) (F:Nat->Value) (n:Nat) (hF:lV w s v F n) (dx:n<=ly)
  (T:TypeId) (aj:Array Value) (hg:w.heap[g]? =some (.cells aj T (0,0))) (u9:n*s<=aj.size) (h1:∀j,j<n*s->(F j).oneCell'=true)
  (h:∀w' tl,w'.heap[g]? =some (.cells tl T (0,0))->tl.size=aj.size->(∀j,tl[j]? =if j<n*s then some (F j)else aj[j]?)->iL g w w'->wpList P ops Q rest (a.put o.dst (goInt n)) w'):wpList P ops Q (o::rest) a w:=by
 refine gC fj fun K hK=> ?_
 obtain⟨ap,cap,rfl,h2⟩:=hF;by_cases h0:n=0
 ·subst h0
  have cr:=aAP (P:=P) w dT sT o.type elem (some ⟨g,0,none⟩) ap ly r9 s cap hu de;unfold Oper.wp;simp[execOp,ho,resolve,invoke,builtin,hd,hv,cr,Result.andThen];exact hK _ _ (h w aj hg rfl (fun j=>by simp) (iL.refl _ _))
 ·obtain⟨ad,rfl,hc⟩:=h2 hO
  have an:((List.range (n*s)).map F).length=n*s:=by simp
  have cr:=aJ6 (P:=P) w dT sT o.type elem g ly r9 s ad n cap aj T ((List.range (n*s)).map F) hu de hg dx an (fun j u hu=>by
   have hj:j<n*s:=by have:=(List.getElem?_eq_some_iff.1 hu).1;simpa using this
   rw[List.getElem?_map,List.getElem?_range hj]at hu;rw[hc j hj];exact hu) (by rw[an];exact u9) (fun u hu=>by
   obtain⟨j,hj,rfl⟩:=dH.1 hu;exact h1 j uGu)
  unfold Oper.wp;simp[execOp,ho,resolve,invoke,builtin,hd,hv,cr,Result.andThen];refine hK _ _ (h _ _ (by simpa using lY w g _ (aj.toList.take 0++(List.range (n*s)).map F++aj.toList.drop (0+((List.range (n*s)).map F).length)).toArray _ _ hg) (by simpa using aEB aj 0 ((List.range (n*s)).map F) (by rw[an];omega)) (fun j=> ?_) (by simpa using iI w g (aj.toList.take 0++(List.range (n*s)).map F++aj.toList.drop (0+((List.range (n*s)).map F).length)).toArray));have:=aKB aj 0 ((List.range (n*s)).map F) (by rw[an];omega) j;simp only[an,eA,aS,yA,Nat.sub_zero]at this;by_cases hj:j<n*s
  ·rw[if_pos hj]
   rw[if_pos hj,List.getElem?_map,List.getElem?_range hj]at this;simpa using this
  ·rw[if_neg hj]
   rw[if_neg hj]at this;simpa using this
end
theorem aBy (z:Array Value) (n j:Nat) (h:j<n):(madeCells z n)[j]? =some (z[j % z.size]!):=by simp[madeCells,h]
end Go.Proofs.YthmfgidbcghnfaaGreatDoor
namespace Go.Proofs.YthmfgidbcghnfaaGreatDoor
open Go.RowKit
def dch (d:Nat):UInt8:=UInt8.ofNat (48+d)
theorem sX (d:Nat) (h:d<10):(dch d).toNat=48+d:=by
 unfold dch;exact Ai5
theorem aKW (d:Nat) (h:d<10):dgt (dch d)=true:=by
 rw[oL,sX d h];omega
theorem aPH (c:UInt8) (h:dgt c=true):dch (c.toNat-48)=c:=by
 have h1:=(oL c).1 h;refine gX.1 ?_;rw[sX _ hO];omega
theorem pI (u:Nat) (h:u<10):Lib.decDigits u=[dch u]:=by rw[Lib.decDigits,dif_pos h];rfl
theorem zX (u:Nat) (h:¬u<10):Lib.decDigits u=Lib.decDigits (u/10)++[dch (u % 10)]:=by rw[Lib.decDigits,dif_neg h];rfl
theorem aCu (u:Nat):kT (Lib.decDigits u)=(u:Int):=by
 induction u using Nat.strongRecOn with
 |_ u ih=>
  by_cases h:u<10
  ·rw[pI u h]
   simp only[kT,vA,List.foldl_nil,sX u h];omega
  ·rw[zX u h,aAo,ih (u/10) hO,sX _ hO];omega
theorem aBB (u:Nat):(Lib.decDigits u).all dgt=true:=by
 induction u using Nat.strongRecOn with
 |_ u ih=>
  by_cases h:u<10
  ·rw[pI u h];simp[aKW u h]
  ·rw[zX u h,vB,ih (u/10) hO];simp[aKW (u % 10) hO]
theorem aPF (u:Nat):Lib.decDigits u≠[]:=by
 by_cases h:u<10
 ·rw[pI u h];simp
 ·rw[zX u h];simp
theorem aPG (u:Nat) (h0:0<u):∃c r,Lib.decDigits u=c::r/\c≠48:=by
 induction u using Nat.strongRecOn with
 |_ u ih=>
  by_cases h:u<10
  ·refine⟨dch u,[],pI u h,fun e=> ?_⟩
   have:=aU UInt8.toNat e;rw[sX u h]at this;have D5:(48:UInt8).toNat=48:=rfl;omega
  ·obtain⟨c,r,e,hc⟩:=ih (u/10) hO hO
   exact⟨c,r++[dch (u % 10)],by rw[zX u h,e];rfl,hc⟩
theorem aEn (u:Nat):gF (Lib.decDigits u)=true:=by
 unfold gF;rw[aBB];by_cases h0:0<u
 ·obtain⟨c,r,e,hc⟩:=aPG u h0
  rw[e];simp[hc]
 ·obtain rfl:u=0:=by omega
  rw[pI 0 hO];rfl
theorem aHj (l:List UInt8) (c:UInt8) (hl:l≠[]) (h:gF (l++[c])=true):gF l=true/\dgt c=true/\1<=kT l:=by
 obtain⟨a,r,rfl⟩:=List.exists_cons_of_ne_nil hl;unfold gF at h ⊢;simp only[aP,List.isEmpty_cons,Bool.not_false,lF,List.head?_cons,aD,aB,aK,jW,vB,eQ]at h;obtain⟨h1,h2,h3,h4⟩:=h;have bn:a≠48:=by
  rintro rfl;simp at h1
 have hd:=(oL a).1 h2;have ha:49<=(a.toNat:Int):=by
  have:a.toNat≠48:=fun e=>bn (gX.1 e)
  omega
 refine⟨?_,?_,?_⟩
 ·simp[bn,h2,h3]
 ·simpa using h4
 ·have:=aAp r h3 (10*0+((a.toNat:Int)-48)) hO
  show 1<=List.foldl _ _ _;simp only[vA];omega
theorem aJ2 {α:Type} (l:List α) (h:l≠[]):∃r c,l=r++[c]:=⟨l.dropLast,l.getLast h,(List.dropLast_concat_getLast h).symm⟩
theorem aIc:∀(k:Nat) (l:List UInt8),l.length<=k->gF l=true->Lib.decDigits (kT l).toNat=l
 |0,l,hk,h=>by
  have:l=[]:=aQ hO;subst this;simp[gF]at h
 |k+1,l,hk,h=>by
  have bn:l≠[]:=by rintro rfl;simp[gF]at h
  obtain⟨r,c,rfl⟩:=aJ2 l bn;by_cases hr:r=[]
  ·subst hr
   have hc:dgt c=true:=by have:=qV h;simpa using this
   have hd:=(oL c).1 hc;have hn:kT ([]++[c])=(c.toNat:Int)-48:=by simp[kT]
   rw[hn,pI _ hO];have:((c.toNat:Int)-48).toNat=c.toNat-48:=by omega
   rw[this,aPH c hc];rfl
  ·obtain⟨h1,h2,h3⟩:=aHj r c hr h
   have hd:=(oL c).1 h2;rw[aAo,zX _ hO];have e1:(10*kT r+((c.toNat:Int)-48)).toNat/10=(kT r).toNat:=by omega
   have e2:(10*kT r+((c.toNat:Int)-48)).toNat % 10=c.toNat-48:=by omega
   rw[e1,e2,aPH c h2,aIc k r (by simp at hk;omega) h1]
theorem aEW (l:List UInt8) (h:gF l=true):Lib.decDigits (kT l).toNat=l:=aIc _ l (aA _) h
theorem aAT (c:UInt8) (r:List UInt8):eO (c::r)=if c.toNat=45 then(if r=[48]then(0,2)else if gF r=true then gK r true else(0,2))else if gF (c::r)=true then gK (c::r) false else(0,2):=rfl
theorem aJh (n:Int) (hn:InR n):eO (Lib.itoa n)=(n,0):=by
 unfold Lib.itoa;by_cases h:n<0
 ·rw[if_pos h]
  have hz:Lib.decDigits n.natAbs≠[48]:=by
   intro e;have h1:=aCu n.natAbs;rw[e]at h1;have h2:kT [48]=0:=by decide
   omega
  rw[aAT,if_pos (show UInt8.toNat 45=45 from rfl),if_neg hz,if_pos (aEn _)];show chk (-kT (Lib.decDigits n.natAbs))=_;rw[aCu,show-(n.natAbs:Int)=n by omega];exact sB hn
 ·rw[if_neg h]
  have hp:=aEn n.toNat;have ha:=aBB n.toNat;have Pj:=aCu n.toNat;cases hl:Lib.decDigits n.toNat with
  |nil=>exact absurd hl (aPF _)
  |cons c r=>
   rw[hl]at hp ha Pj;simp only[jW,eQ]at ha;have hc:=(oL c).1 ha.1;rw[aAT,if_neg hO,if_pos hp];show chk (kT (c::r))=_;rw[Pj,show((n.toNat:Nat):Int)=n by omega];exact sB hn
theorem aPS {n:Int} (h:(chk n).2=0):(chk n).1=n:=by
 unfold chk at*
 split at h
 ·rw[if_pos uCw]
 ·simp at h
theorem aJr (l:List UInt8) (h:(eO l).2=0):Lib.itoa (eO l).1=l:=by
 cases l with
 |nil=>simp[eO]at h
 |cons c r=>
  unfold eO at h ⊢;simp only at h ⊢;by_cases hc:c.toNat=45
  ·rw[if_pos hc]at h ⊢
   by_cases D5:r=[48]
   ·rw[if_pos D5]at h;simp at h
   ·rw[if_neg D5]at h ⊢
    by_cases hp:gF r=true
    ·rw[if_pos hp]at h ⊢
     have h1:(gK r true).1= -kT r:=aPS h;rw[h1];have h2:=zF r (qV hp);have h3:=aEW r hp;have MI:kT r≠0:=by
      intro e;rw[e]at h3;rw[show(0:Int).toNat=0 from rfl,pI 0 hO]at h3;exact D5 h3.symm
     unfold Lib.itoa;rw[if_pos hO,show(-kT r).natAbs=(kT r).toNat by omega,h3];congr 1
     exact(gX.1 hc).symm
    ·rw[if_neg hp]at h;simp at h
  ·rw[if_neg hc]at h ⊢
   by_cases hp:gF (c::r)=true
   ·rw[if_pos hp]at h ⊢
    have h1:(gK (c::r) false).1=kT (c::r):=aPS h;rw[h1];have h2:=zF _ (qV hp);unfold Lib.itoa;rw[if_neg hO,aEW _ hp]
   ·rw[if_neg hp]at h;simp at h
end Go.Proofs.YthmfgidbcghnfaaGreatDoor
