import Derived.Test.YthmfgidbcghnfaaGreatDoorQ0
import Derived.Test.YthmfgidbcghnfaaGreatDoorQ32
import Derived.Test.YthmfgidbcghnfaaGreatDoorCards
set_option maxRecDepth 1000000
set_option maxHeartbeats 8000000
set_option linter.unusedSimpArgs false
namespace Go.Proofs.YthmfgidbcghnfaaGreatDoor
open Go.ChangeShapes Go.WideShapes Go.ChangeAt Go.RowKit
abbrev oI:List (String×DataW Unit):=Rows.codecEncodesRow.laid.filter fun x=>x.2.handleName?.isNone
noncomputable def w0H (os:Os):World:=
 let w0:=World.holding Tryz.prog os ⟨#[],#[],[]⟩
 {w0 with heap:=w0.heap.modify 0 fun
  | .cells _ t frozen=>.cells #[.iface 220 (.agg #[.pointer (some ⟨7,45,none⟩)])] t frozen
  |o=>o}
noncomputable def laidWH (os:Os):World:=(w0H os).layVars Tryz.prog oI
theorem laidWH_os (os:Os):(laidWH os).os=os:=(World.layVars_os _ _ _).trans rfl
theorem aHI (os:Os) (args:Array Value):laidMet Tryz.prog oI ((laidWH os).forCall (fun _ _=>0) ⟨#[],args,[]⟩).memory:=by
 have e1:(oI.filter fun x=>(oI.map (·.1)).contains x.1)=oI:=aGB.2 fun x hx=>List.contains_iff_mem.2 (dH.2 ⟨x,hx,rfl⟩)
 have e2:(oI.filter fun x=> !(oI.map (·.1)).contains x.1)=[]:=rY.2 fun x hx=>by rw[List.contains_iff_mem.2 (dH.2 ⟨x,hx,rfl⟩)];simp
 have h:laidMet Tryz.prog oI (laidWH os):=laidMet_layVars (w0:=w0H os) (oI.map (·.1)) [] (by rw[e1];rfl) (by rw[e1];kernel_rfl) (by rw[e1];kernel_rfl) (by rw[e2];exact LaidIn.none);exact h.of_heap (by simp[World.memory,World.forCall,Input.heap])
theorem laidWH_met (os:Os) (args:Array Value):laidMetH Tryz.prog Rows.codecEncodesRow.laid ((laidWH os).forCall (fun _ _=>0) ⟨#[],args,[]⟩).memory:=
 laidMetH_of_parts (aHI os args) uAu
theorem aMI:Tryz.prog.globalNamed "errors.errorType"=some 0:=by kernel_rfl
theorem aQZ:(Tryz.prog.cutTypes.find? (·.1== "internal/reflectlite.rtype")).map (·.2)=some 220:=by kernel_rfl
theorem aRf:((List.range Tryz.prog.types.size).filter fun t=>Tryz.prog.rowNamed t [101,114,114,111,114])=[45]:=by kernel_rfl
theorem aJB {W:World} (h:laidMetH Tryz.prog Rows.codecEncodesRow.laid W):ET W:=by
 have hh:=(aBE.1 h).2;obtain⟨name,u,ty,e1,e2,e3,e4,e5⟩:=hh ("errors.errorType",Rows.laid_errors_errorType) (by
  rw[kO];exact⟨fK (show Rows.codecEncodesRow.laid[3]? =some ("errors.errorType",Rows.laid_errors_errorType)from rfl),rfl⟩)
 have en:name=[101,114,114,111,114]:=(aH e1).symm;subst en;obtain rfl:=aH (aQZ.symm.trans e2);have hm:ty∈(List.range Tryz.prog.types.size).filter fun t=>Tryz.prog.rowNamed t [101,114,114,111,114]:=kO.2 ⟨jZ.2 e3,e4⟩
 rw[aRf]at hm;obtain rfl:=bV.1 hm;have hd:typeHandle Tryz.prog 45=.pointer (some ⟨7,45,none⟩):=by kernel_rfl
 rw[hd]at e5;show W.cell? _=_;simpa using World.var?_cell aMI e5 0
theorem aI2 {W:World} (h:laidMetH Tryz.prog Rows.codecEncodesRow.laid W):Esc W:=by
 have h':=sN (3) (show laidMet Tryz.prog (Rows.codecEncodesRow.laid.filter fun x=>x.2.handleName?.isNone) W from(aBE.1 h).1);obtain⟨ps,⟨g,t,cs,fuel,p,q,hg,ht,Ng,hd,_,_⟩,_⟩:=h';have La:Tryz.prog.globalNamed aRU=some 2:=by kernel_rfl
 obtain rfl:=aH (La.symm.trans hg);have D6:(Tryz.prog.globals[2]?).map (·.type)=some 273:=by kernel_rfl
 obtain rfl:=aH (D6.symm.trans ht);unfold Esc;have:=aDM (zs:=escL) (b:=5) (s:=4) (n:=6) Tryz.underlying273 Tryz.underlying272 Tryz.underlying5 Tryz.underlying4 rfl rfl rfl rfl rfl rfl uAu uAu uAu uAu hd;rw[<-this];exact Ng
theorem aJ3 {W:World} (h:laidMetH Tryz.prog Rows.codecEncodesRow.laid W):Sg W:=by
 have h':=sN (4) (show laidMet Tryz.prog (Rows.codecEncodesRow.laid.filter fun x=>x.2.handleName?.isNone) W from(aBE.1 h).1);obtain⟨ps,⟨g,t,cs,fuel,p,q,hg,ht,Ng,hd,_,_⟩,_⟩:=h';have La:Tryz.prog.globalNamed sgN=some 1:=by kernel_rfl
 obtain rfl:=aH (La.symm.trans hg);have D6:(Tryz.prog.globals[1]?).map (·.type)=some 201:=by kernel_rfl
 obtain rfl:=aH (D6.symm.trans ht);unfold Sg;have:=aFw (zs:=gE) (n:=23) Tryz.underlying201 Tryz.underlying9 uAu uAu hd;rw[show sgC=(gE.map fun z=>Value.string ⟨z.toArray⟩).toArray from rfl,<-this];exact Ng
theorem aGV {W:World} (h:laidMetH Tryz.prog Rows.codecEncodesRow.laid W):T13 W:=⟨aI2 h,aJB h,aJ3 h⟩
theorem aGU {W:World} (h:laidMetH Tryz.prog Rows.codecEncodesRow.laid W):Tab W:=by
 have h':=(aBE.1 h).1;exact Lib.tabIs_of_head (k:=.u64) (zs:=Lib.pow10Tab) (rest:=(Rows.codecEncodesRow.laid.filter fun x=>x.2.handleName?.isNone).drop (2+1)) (g:=3) (t:=310) (e:=22) (n:=20) uAu uAu Tryz.underlying310 Tryz.underlying22 uAu uAu (sN 2 h')
theorem rH.no {W:World} {E:Value} {n:Int} (h:rH W E 0 n):E=.nilIface:=by
 rcases h with h|⟨h,_⟩
 ·exact h.2
 ·exact absurd rfl h
theorem pU {B b k:Nat} {V W:World} {cs:Array Value} {T:TypeId} {fr:Nat×Nat} (h:mX B b V W) (hk:V.heap[k]? =some (.cells cs T fr)) (zu:k≠b) (hT:T≠5):W.heap[k]? =some (.cells cs T fr):=
 h.2 k _ hk (fun e=>zu (aH e)) (fun c fz e=>by cases e;exact hT rfl)
theorem and14 {a b:Bool} (h:a=true) (k:b=true):(a&&b)=true:=by rw[h,k];rfl
theorem f14_laid:laidOutB Tryz.prog=true:=by kernel_rfl
theorem f14_rowed:mapsRowed Tryz.prog=true:=by kernel_rfl
theorem f14_plain:(Rows.codecCanonRow.plainKeys==Tryz.prog.plainKeys)=true:=by kernel_rfl
theorem f14_heard:Tryz.prog.stopsHeard=true:=by kernel_rfl
theorem f14_enter:Tryz.prog.mayEnter=true:=by kernel_rfl
theorem f14_lifted:(Rows.codecCanonRow.lifted==Tryz.prog.liftsFinal)=true:=by kernel_rfl
theorem f14_make:(Tryz.prog.make==some Rows.codecCanonRow.make)=true:=by kernel_rfl
theorem f14_looks:true=Tryz.prog.looks []:=by kernel_rfl
theorem f14_main:Tryz.prog.mainIs=some ((Rows.codecCanonCard.stood.harness).1,(Rows.codecCanonCard.stood.harness).2.toList):=by kernel_rfl
section
variable {H : Type} {enc : TypeId × Value → H} {W : World} {sp : Nat → Bool} {held : Bool} {r : Reach} {b0 base : Nat} {v : Value} {d : DataW H} {ps : List MemPlace}
theorem conf_open (hval:Value.okWide Tryz.prog W r b0 24 v) (hd:DataW.Trod enc Tryz.prog W base sp held 24 v d ps):
  ∃(s:Nat) (n:Int),v=.agg #[.int .u64 (s:Int),.int .i64 n]/\s<18446744073709551616:=by
 obtain⟨v0,v1,y0,y1,m,rfl,rfl,rfl,h0,h1⟩:=Go.Joins.open_agg2 Tryz.underlying24 uAu uAu hval hd;obtain⟨k,e0,rfl,w0⟩:=aFc Tryz.underlying22 h0;obtain⟨n,e1,rfl,w1⟩:=aFc Tryz.underlying3 h1;simp only[dA,rV]at e0 e1;subst e0 e1;have h2:=bH.1 (show(decide (IntKind.u64.min<=k)&&decide (k<=IntKind.u64.max))=true from w0);have h3:(0:Int)<=k:=of_decide_eq_true h2.1;have h4:k<=18446744073709551615:=of_decide_eq_true h2.2;exact⟨k.toNat,n,by rw[Int.toNat_of_nonneg h3],by omega⟩
end
end Go.Proofs.YthmfgidbcghnfaaGreatDoor
namespace Go.Proofs.YthmfgidbcghnfaaGreatDoor
open Go.RowKit Go.Shelf Go.Sort
theorem aIY (n:Nat) (a:Option Addr) (cp:Nat) (ss:List (List UInt8)) (w:World) (hn:n<=1000000) (Cr:ss.length=n) (KV:0<n)
    (Nh:Calls Tryz.prog 148 #[.slice a n cp] w fun e w'=>∃v',e=.returned v'/\w'.ownsRow w.heap.size 9 1 v' n (ss.map encStr)/\v'≠.slice none 0 0/\Below w.heap.size w w'):
    Calls Tryz.prog 113 #[.slice a n cp] w fun e w'=>e=.returned (.bool (decide (¬ss.Nodup)))/\Below w.heap.size w w':=by
  obtain⟨z,hz⟩:∃z,z=(Lib.compact (ss.mergeSort fun x y=>decide (x<=y))).length:=⟨_,rfl⟩
  have ep:=aD6 ss;rw[<-hz,Cr]at ep;obtain⟨R,hR⟩:∃R,R=decide (¬ss.Nodup):=⟨_,rfl⟩
  rw[<-hR];have hlt:decide (z<n)=R:=by
    rw[hR];by_cases h:z<n
    ·rw[gT h,gT (ep.1 h)]
    ·rw[dB h,dB (fun h'=>h (ep.2 h'))]
  have ew:=iH hlt;have HZ:=iH hz;have Sz:=iH Cr;clear hz ep hR hlt Cr;go_enter Tryz.func113,Tryz.ntmps113;go_wp2_with (first
    |(go_at_call 148;refine Nh.mono ?_;rintro e w1 ⟨v1,rfl,di,Ds,tv⟩
      obtain⟨g,cap,rfl,tz,Ui,S1,CY,an,hH⟩:=Lib.holds_of_ownsRow di Ds;have yn:=Tryz.slices_Sort_string g 0 cap ss w1 hH Ui hO;rw[an]at yn;have X:=iH (And.intro di (And.intro tv (And.intro tz (And.intro Ui (And.intro S1 (And.intro CY (And.intro an hH)))))));clear di tv hH Ds)
    |(go_at_call 149;refine yn.mono ?_;rintro e w2 ⟨rfl,nn,os,rfl⟩
      have cw:(ss.mergeSort fun x y=>decide (x<=y)).length=n:=by rw[List.length_mergeSort];exact Sz.out
      have EC:Holds encStr (grow (putRow encStr (Sort.ahead w1 nn) g 0 (ss.mergeSort fun x y=>decide (x<=y)).toArray) os) g 0 (ss.mergeSort fun x y=>decide (x<=y)).toArray:=
        holds_grow encStr _ os g 0 _ (by simpa[putRow,mapBlock,Sort.ahead]using X.out.2.2.2.1) (holds_putRow encStr _ g 0 _ _ (holds_ahead encStr w1 nn g 0 _ X.out.2.2.2.2.2.2.2) uAy)
      have Ks:=Tryz.slices_Compact_string g 0 cap (ss.mergeSort fun x y=>decide (x<=y)) _ EC hO (by have:=X.out.2.2.2.2.1;omega);rw[cw,<-HZ.out]at Ks;have j8:Hid (Below w.heap.size w (grow (putRow encStr (Sort.ahead w1 nn) g 0 (ss.mergeSort fun x y=>decide (x<=y)).toArray) os)):=X.out.2.1.grown (grownBy_sorted _) X.out.2.1.size (fun j hj=>by cases hj;exact X.out.2.2.1);clear EC yn)
    |(go_at_call 150;refine Ks.mono ?_;rintro e w3 ⟨rfl,q,rfl⟩))
  go_ret;refine⟨?_,Lib.below_putRow j8.out X.out.2.2.1⟩;rw[<-ew.out];rfl
theorem aNq (v:Value) (ks:List ByteArray) (w:World) (h:TxV w v ks) (hl:ks.length<=1000000):Calls Tryz.prog 113 #[v] w fun e w'=>e=.returned (.bool (decide (¬ks.Nodup)))/\Below w.heap.size w w':=by
  obtain⟨a,cap,b,o,rfl,ha,hc,hm⟩:=h;have oh:(ks.map kb).Nodup↔ks.Nodup:=aHt;rcases fN ks.length with h0|h0
  ·obtain rfl:=aQ h0
   rw[dB uAy];show Calls _ _ #[.slice a 0 cap] _ _;cases a with
   |none=>
    go_enter Tryz.func113,Tryz.ntmps113;go_wp2_with (first
      |(go_at_call 148;refine(Tryz.slices_Clone_string_nil _ _ _).mono ?_;rintro e w1 ⟨rfl,rfl⟩)
      |(go_at_call 149;refine(Tryz.slices_Sort_string_none _ _ _).mono ?_;rintro e w2 ⟨rfl,rfl⟩)
      |(go_at_call 150;refine(Tryz.slices_Compact_string_empty _ _ _).mono ?_;rintro e w3 ⟨rfl,rfl⟩))
    go_ret;exact⟨rfl,bB _ _⟩
   |some p=>
    go_enter Tryz.func113,Tryz.ntmps113;go_wp2_with (first
      |(go_at_call 148;refine(Tryz.slices_Clone_string_zero _ _ _).mono ?_;rintro e w1 ⟨v1,rfl,di,Ds,tv⟩;obtain⟨a1,c1,rfl⟩:∃a1 c1,v1=.slice a1 0 c1:=by(rcases di.2 with⟨e,_⟩|⟨g,cp,aj,e,_⟩<;>exact⟨_,_,e⟩)
        have HB:=iH tv;clear di Ds tv)
      |(go_at_call 149;refine(Tryz.slices_Sort_string_none _ _ _).mono ?_;rintro e w2 ⟨rfl,rfl⟩)
      |(go_at_call 150;refine(Tryz.slices_Compact_string_empty _ _ _).mono ?_;rintro e w3 ⟨rfl,rfl⟩))
    go_ret;exact⟨rfl,HB.out⟩
  ·obtain rfl:=ha h0
   have mq:=Tryz.slices_Clone_string b o ks.length cap ks w (aA _) hO (fun j hj=>by rw[hc j hj,List.getD_eq_getElem?_getD,List.getElem?_eq_getElem hj];rfl);have:=aIY ks.length (some ⟨b,o,none⟩) cap (ks.map kb) w hl uAy h0 (mq.mono fun e w' ⟨v',he,di,Ds,tv⟩=>⟨v',he,by
     have e2:(ks.map kb).map encStr=(ks.take ks.length).map Value.string:=by
       rw[mZ,aBH];apply aGA;intro k _;show encStr (kb k)=Value.string k;first|rfl|simp[encStr,kb]
     rw[e2];exact di,Ds,tv⟩)
   rw[show decide (¬ks.Nodup)=decide (¬(ks.map kb).Nodup)from by simp only[oh]];exact this
end Go.Proofs.YthmfgidbcghnfaaGreatDoor
namespace Go.Proofs.YthmfgidbcghnfaaGreatDoor
open Go.RowKit Go.Shelf
theorem oC:(Tryz.prog.info? 28).map (·.size)=some 5:=by kernel_rfl
theorem aH6:(Tryz.prog.info? 34).map (·.size)=some 3:=by kernel_rfl
theorem aBN (k n:Int) (t:ByteArray) (kv xv:Value) (w:World):Calls Tryz.prog 67 #[.agg (trC k n t kv xv)] w fun e w'=>e=.returned (scV k n t)/\Below w.heap.size w w':=by
 obtain⟨w1,ag⟩:∃w1,(w.alloc (.cells (trC k n t kv xv) 28)).alloc (.cells #[.int .i64 0,.int .i64 0,.string ⟨#[]⟩] 34)=w1:=⟨_,rfl⟩
 obtain⟨af,ai,aw,al⟩:=fL ag;have c0:w1.cell? ⟨w.heap.size,0,none⟩=some (.int .i64 k):=aG ai rfl;have c1:w1.cell? ⟨w.heap.size,1,none⟩=some (.int .i64 n):=aG ai rfl;have c2:w1.cell? ⟨w.heap.size,2,none⟩=some (.string t):=aG ai rfl;have bl:=iH aw;have HB1:=iH af;have HS1:=iH al;clear ai aw af al;go_enter Tryz.func67,Tryz.ntmps67;go_upto_region 1 with fail
 clear ag;go_wp2_with (refine aV rfl 34 _ _ rfl (w.heap.size+1) #[.int .i64 k,.int .i64 n,.string t] rfl rfl 34 _ bl.out aH6 rfl uAx ?_;intro w2 h2 k2)
 have al:=HS1.out;exact aN (bE rfl _ _ (w.heap.size+1) 34 _ (0,0) _ rfl h2 Tryz.underlying34 rfl aH6) rfl ⟨rfl,HB1.out.trans (k2.below hO)⟩
theorem aTd (k n:Int) (t:ByteArray) (ks:List ByteArray) (xs:List Tr):aAm (.nd k n t ks xs)=if k<0\/6<k then 3 else if k<=3 then(if ks≠[]\/xs.length≠0 then 1 else iB (k,n,kb t))else if n≠0\/t≠⟨#[]⟩then 1 else if(k=5/\ks.length≠xs.length)\/(k≠5/\ks≠[])then 1 else if¬ks.Nodup then 6 else 0:=rfl
theorem aDW {t:ByteArray} (h:¬t=⟨#[]⟩):t.toList.isEmpty=false:=by
 refine oR.2 fun h'=>h ?_
 have h2:t.toList=[]:=List.isEmpty_iff.1 h';rw[dJ]at h2;exact ByteArray.ext (Array.toList_inj.1 h2)
theorem aDF (a:Tr) (v:Value) (w:World) (hv:TrV w a v) (hl:a.ks.length<=1000000):Calls Tryz.prog 66 #[v] w fun e w'=>e=.returned (.int .i64 (aAm a))/\Below w.heap.size w w':=by
 obtain⟨k,n,t,ks,xs⟩:=a;obtain⟨kv,xv,rfl,ht,_,_,ju,ad,cap,bb,oo,rfl,_,S2,_⟩:=hv.open';obtain⟨kd,rh,Kt,ko,rfl,_,_,k3⟩:=id ju;have qw:ks.length<=1000000:=hl;have Zk:(xs.length:Int)<=9223372036854775807:=by unfold maxLen at S2;omega
 have Ca:=fun W (hb:Below w.heap.size w W)=>aNq (.slice kd ks.length rh) ks W (ju.later hb) qw
 obtain⟨R,hR⟩:∃R,R=aAm (.nd k n t ks xs):=⟨_,rfl⟩
 rw[<-hR];rw[aTd]at hR;have A9:ks≠[]↔0<ks.length:=by rw[List.length_pos_iff]
 have gv:(if ks≠[]\/xs.length≠0 then(1:Int)else iB (k,n,kb t))=if 0<ks.length\/0<xs.length then 1 else iB (k,n,kb t):=by
  by_cases h:0<ks.length\/0<xs.length
  ·rw[if_pos h,if_pos (h.imp A9.2 (fun h=>by omega))]
  ·rw[if_neg h,if_neg (fun h'=>h (h'.imp A9.1 (fun h=>by omega)))]
 rw[gv]at hR;obtain⟨lk,zx⟩:∃lk,lk=ks.length:=⟨_,rfl⟩
 obtain⟨lx,Ku⟩:∃lx,lx=xs.length:=⟨_,rfl⟩
 rw[<-zx]at Ca A9 hR ⊢;rw[<-Ku]at hR Zk ⊢;obtain⟨nd,oh⟩:∃nd,nd=decide (¬ks.Nodup):=⟨_,rfl⟩
 have ie:∀R',R'=(if¬ks.Nodup then(6:Int)else 0)->R'=if nd=true then 6 else 0:=fun R' h=>by rw[h,oh];by_cases h':ks.Nodup<;>simp[h']
 rw[<-oh]at Ca;have tb:=iH (Below.newly' w (.cells (trC k n t (.slice kd lk rh) (.slice ad lx cap)) 28));have Ei:Hid ((w.alloc (.cells (trC k n t (.slice kd lk rh) (.slice ad lx cap)) 28)).heap[w.heap.size]? =some (.cells (trC k n t (.slice kd lk rh) (.slice ad lx cap)) 28 (0,0))):=aC _ _;have jm:=iH (fun W=>aBN k n t (.slice kd lk rh) (.slice ad lx cap) W);have ED:=iH (fun W=>aH5 k n t W);have Gw:=iH Ca;clear hv ju ht hl qw Ca gv oh S2 k3 zx Ku;by_cases gq:k<0\/6<k
 ·rw[if_pos gq]at hR
  subst hR;have n0:¬k=0:=by omega
  have n1:¬k=1:=by omega
  have n2:¬k=2:=by omega
  have n3:¬k=3:=by omega
  have n4:¬k=4:=by omega
  have n5:¬k=5:=by omega
  have n6:¬k=6:=by omega
  clear A9 gq ie;exact Ab8
 rw[if_neg gq]at hR;by_cases h3:k<=3
 ·rw[if_pos h3]at hR
  have hk:k=0\/k=1\/k=2\/k=3:=by omega
  by_cases c1:0<lk
  ·rw[if_pos (.inl c1)]at hR
   subst hR;clear A9 gq h3 ie;rcases hk with rfl|rfl|rfl|rfl
   all_goals
    exact Ab8
  ·obtain rfl:lk=0:=by omega
   by_cases c2:0<lx
   ·rw[if_pos (.inr c2)]at hR
    subst hR;clear A9 gq h3 c1 ie;rcases hk with rfl|rfl|rfl|rfl
    all_goals
     exact Ab8
   ·obtain rfl:lx=0:=by omega
    rw[if_neg hO]at hR;obtain⟨R2,wb⟩:∃R2,R2=iB (k,n,kb t):=⟨_,rfl⟩
    rw[<-wb]at hR;subst hR;have Zl:Hid (∀W,Calls Tryz.prog 112 #[scV k n t] W fun e w'=>e=.returned (.int .i64 R)/\Below W.heap.size W w'):=by show∀W,_;rw[wb];exact ED.out
    clear A9 gq h3 c1 c2 ie wb ED;rcases hk with rfl|rfl|rfl|rfl
    all_goals
     go_enter Tryz.func66,Tryz.ntmps66;go_wp2_with (first
      |(refine aW rfl 28 _ rfl w.heap.size rfl 28 _ _ _ Ei.out Tryz.underlying28 rfl oC ?_)
      |(go_at_call 67;(with_reducible refine(jm.out _).mono ?_);rintro e w2 ⟨rfl,ah⟩;have aq:=iH (tW tb.out ah);clear ah)
      |(go_at_call 112;(with_reducible refine(Zl.out _).mono ?_);rintro e w3 ⟨rfl,au⟩;have av:=iH (tW aq.out au);clear au))
     go_ret;exact⟨rfl,av.out⟩
 ·rw[if_neg h3]at hR
  have hk:k=4\/k=5\/k=6:=by omega
  by_cases c1:n=0
  case neg=>
   rw[if_pos (.inl c1)]at hR;subst hR;clear A9 gq h3 ie;rcases hk with rfl|rfl|rfl
   all_goals
    exact Ab8
  by_cases c2:t=⟨#[]⟩
  case neg=>
   rw[if_pos (.inr c2)]at hR;subst hR;subst c1;have NL:t.toList.isEmpty=false:=aDW c2;clear A9 gq h3 c2 ie;rcases hk with rfl|rfl|rfl
   all_goals
    exact Ab8
  subst c1 c2;rw[if_neg uAy]at hR;by_cases c3:k=5
  ·subst c3
   by_cases c4:lk=lx
   case neg=>
    rw[if_pos (.inl ⟨rfl,c4⟩)]at hR;subst hR;clear A9 gq h3 hk ie;exact Ab8
   subst c4;rw[if_neg (by rintro(⟨_,h⟩|⟨h,_⟩)<;>first|exact h rfl|exact absurd rfl h)]at hR;have wb:=ie _ hR;clear hR ie gq h3 hk A9;cases nd
   all_goals
    subst wb;exact Ae8
  ·by_cases c4:lk=0
   case neg=>
    rw[if_pos (.inr ⟨c3,A9.2 hO⟩)]at hR;subst hR;clear A9 gq h3 ie;rcases hk with rfl|rfl|rfl
    case inr.inl=>exact absurd rfl c3
    all_goals
     clear c3;exact Ab8
   subst c4;rw[if_neg (by rintro(⟨h,_⟩|⟨_,h⟩)<;>first|exact c3 h|exact absurd (A9.1 h) hO)]at hR;have wb:=ie _ hR;clear hR ie gq h3 A9;cases nd
   all_goals
    subst wb;rcases hk with rfl|rfl|rfl
    case inr.inl=>exact absurd rfl c3
    all_goals
     clear c3;exact Ae8
end Go.Proofs.YthmfgidbcghnfaaGreatDoor
