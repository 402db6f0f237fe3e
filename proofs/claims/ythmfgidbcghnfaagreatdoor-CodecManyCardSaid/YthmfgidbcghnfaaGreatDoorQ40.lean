import Derived.Test.YthmfgidbcghnfaaGreatDoorQ0
import Derived.Test.YthmfgidbcghnfaaGreatDoorQ39
set_option maxRecDepth 1000000
set_option maxHeartbeats 8000000
set_option linter.unusedSimpArgs false
namespace Go.Proofs.YthmfgidbcghnfaaGreatDoor
open Go.RowKit
theorem aQ0:(Tryz.prog.info? 2).map (·.size)=some 1:=by kernel_rfl
theorem jE:(Tryz.prog.info? 28).map (·.size)=some 5:=by kernel_rfl
theorem aJM (tk:Int) (ta te:Nat) (tn:Int) (tt:List UInt8) (w:World) (h:tk=3):Calls Tryz.prog 99 #[.agg (bN ⟨tk,ta,te,tn,tt⟩)] w fun e w'=>e=.returned (.tuple #[.agg (trC 2 tn ⟨#[]⟩ (.slice none 0 0) (.slice none 0 0)),.bool true])/\Below w.heap.size w w':=by
 obtain⟨w1,ag⟩:∃w1,((w.alloc (.cells (bN ⟨tk,ta,te,tn,tt⟩) 90)).alloc (.cells (trC 0 0 ⟨#[]⟩ (.slice none 0 0) (.slice none 0 0)) 28)).alloc (.cells (trC 0 0 ⟨#[]⟩ (.slice none 0 0) (.slice none 0 0)) 28)=w1:=⟨_,rfl⟩
 obtain⟨af,ai,aw,jg,al⟩:=dF ag;have d0:w1.cell? ⟨w.heap.size,0,none⟩=some (.int .i64 tk):=aG ai rfl;have d3:w1.cell? ⟨w.heap.size,3,none⟩=some (.int .i64 tn):=aG ai rfl;have g3:(tk==3)=true:=eK.2 h;have bl:=iH aw;have HB1:=iH af;clear ai aw jg af al h;go_enter Tryz.func99,Tryz.ntmps99;go_upto_region 2 with fail
 clear ag;go_wp2_with (refine aV rfl 28 _ _ rfl (w.heap.size+1) (trC 2 tn ⟨#[]⟩ (.slice none 0 0) (.slice none 0 0)) rfl rfl 28 _ bl.out jE rfl uAx ?_;intro w9 h9 k9)
 exact Af9
theorem aJL (tk:Int) (ta te:Nat) (tn:Int) (tt:List UInt8) (w:World) (h:tk=4):Calls Tryz.prog 99 #[.agg (bN ⟨tk,ta,te,tn,tt⟩)] w fun e w'=>e=.returned (.tuple #[.agg (trC 3 0 ⟨tt.toArray⟩ (.slice none 0 0) (.slice none 0 0)),.bool true])/\Below w.heap.size w w':=by
 obtain⟨w1,ag⟩:∃w1,((w.alloc (.cells (bN ⟨tk,ta,te,tn,tt⟩) 90)).alloc (.cells (trC 0 0 ⟨#[]⟩ (.slice none 0 0) (.slice none 0 0)) 28)).alloc (.cells (trC 0 0 ⟨#[]⟩ (.slice none 0 0) (.slice none 0 0)) 28)=w1:=⟨_,rfl⟩
 obtain⟨af,ai,aw,jg,al⟩:=dF ag;have d0:w1.cell? ⟨w.heap.size,0,none⟩=some (.int .i64 tk):=aG ai rfl;have d4:w1.cell? ⟨w.heap.size,4,none⟩=some (.string ⟨tt.toArray⟩):=aG ai rfl;have g3:(tk==3)=false:=aE.2 hO;have g4:(tk==4)=true:=eK.2 h;have bl:=iH aw;have HB1:=iH af;clear ai aw jg af al h;go_enter Tryz.func99,Tryz.ntmps99;go_upto_region 2 with fail
 clear ag;go_wp2_with (refine aV rfl 28 _ _ rfl (w.heap.size+1) (trC 3 0 ⟨tt.toArray⟩ (.slice none 0 0) (.slice none 0 0)) rfl rfl 28 _ bl.out jE rfl uAx ?_;intro w9 h9 k9)
 exact Af9
theorem aN7 (tk:Int) (ta te:Nat) (tn:Int) (tt:List UInt8) (w:World) (h3:¬tk=3) (h4:¬tk=4) (h:(tt==[116,114,117,101])=true):Calls Tryz.prog 99 #[.agg (bN ⟨tk,ta,te,tn,tt⟩)] w fun e w'=>e=.returned (.tuple #[.agg (trC 1 1 ⟨#[]⟩ (.slice none 0 0) (.slice none 0 0)),.bool true])/\Below w.heap.size w w':=by
 obtain⟨w1,ag⟩:∃w1,((w.alloc (.cells (bN ⟨tk,ta,te,tn,tt⟩) 90)).alloc (.cells (trC 0 0 ⟨#[]⟩ (.slice none 0 0) (.slice none 0 0)) 28)).alloc (.cells (trC 0 0 ⟨#[]⟩ (.slice none 0 0) (.slice none 0 0)) 28)=w1:=⟨_,rfl⟩
 obtain⟨af,ai,aw,jg,al⟩:=dF ag;have d0:w1.cell? ⟨w.heap.size,0,none⟩=some (.int .i64 tk):=aG ai rfl;have d4:w1.cell? ⟨w.heap.size,4,none⟩=some (.string ⟨tt.toArray⟩):=aG ai rfl;have g3:(tk==3)=false:=aE.2 h3;have g4:(tk==4)=false:=aE.2 h4;have q0:(tt==[116,114,117,101])=true:=h;have bl:=iH aw;have kg:=iH jg;have HB1:=iH af;clear ai aw jg af al h h3 h4;go_enter Tryz.func99,Tryz.ntmps99;go_upto_region 2 with fail
 clear ag;go_wp2_with (first
  |(refine lP rfl 2 _ _ rfl (w.heap.size+2) 1 _ rfl rfl rfl 28 _ kg.out aQ0 (show 1<5 by omega) ?_;intro w2 h2 k2;have fx:=iH h2;have bo:=iH (k2.other bl.out (fun e=>by omega));have du:=iH k2;clear h2 k2)
  |(refine lP rfl 3 _ _ rfl (w.heap.size+2) 0 _ rfl rfl rfl 28 _ fx.out uG (show 0<5 by omega) ?_;intro w3 h3 k3;have xg:=iH h3;have dp:=iH (k3.other bo.out (fun e=>by omega));have gb:=iH k3;clear h3 k3)
  |(refine aW rfl 28 _ rfl (w.heap.size+2) rfl 28 _ _ _ xg.out Tryz.underlying28 rfl jE ?_)
  |(refine aV rfl 28 _ _ rfl (w.heap.size+1) (trC 1 1 ⟨#[]⟩ (.slice none 0 0) (.slice none 0 0)) rfl rfl 28 _ dp.out jE rfl uAx ?_;intro w9 h9 k9))
 exact aN (aR rfl _ _ (w.heap.size+1) 28 _ (0,0) _ rfl h9 Tryz.underlying28 rfl jE) rfl ⟨rfl,(((HB1.out.trans (du.out.below hO)).trans (gb.out.below hO)).trans (k9.below hO))⟩
theorem aN6 (tk:Int) (ta te:Nat) (tn:Int) (tt:List UInt8) (w:World) (h3:¬tk=3) (h4:¬tk=4) (h:(tt==[102,97,108,115,101])=true):Calls Tryz.prog 99 #[.agg (bN ⟨tk,ta,te,tn,tt⟩)] w fun e w'=>e=.returned (.tuple #[.agg (trC 1 0 ⟨#[]⟩ (.slice none 0 0) (.slice none 0 0)),.bool true])/\Below w.heap.size w w':=by
 obtain⟨w1,ag⟩:∃w1,((w.alloc (.cells (bN ⟨tk,ta,te,tn,tt⟩) 90)).alloc (.cells (trC 0 0 ⟨#[]⟩ (.slice none 0 0) (.slice none 0 0)) 28)).alloc (.cells (trC 0 0 ⟨#[]⟩ (.slice none 0 0) (.slice none 0 0)) 28)=w1:=⟨_,rfl⟩
 obtain⟨af,ai,aw,jg,al⟩:=dF ag;have d0:w1.cell? ⟨w.heap.size,0,none⟩=some (.int .i64 tk):=aG ai rfl;have d4:w1.cell? ⟨w.heap.size,4,none⟩=some (.string ⟨tt.toArray⟩):=aG ai rfl;have g3:(tk==3)=false:=aE.2 h3;have g4:(tk==4)=false:=aE.2 h4;have q0:(tt==[116,114,117,101])=false:=by rw[eq_of_beq h];decide
 have q1:(tt==[102,97,108,115,101])=true:=h;have bl:=iH aw;have kg:=iH jg;have HB1:=iH af;clear ai aw jg af al h h3 h4;go_enter Tryz.func99,Tryz.ntmps99;go_upto_region 2 with fail
 clear ag;go_wp2_with (first
  |(refine lP rfl 3 _ _ rfl (w.heap.size+2) 0 _ rfl rfl rfl 28 _ kg.out uG (show 0<5 by omega) ?_;intro w2 h2 k2;have fx:=iH h2;have bo:=iH (k2.other bl.out (fun e=>by omega));have du:=iH k2;clear h2 k2)
  |(refine aW rfl 28 _ rfl (w.heap.size+2) rfl 28 _ _ _ fx.out Tryz.underlying28 rfl jE ?_)
  |(refine aV rfl 28 _ _ rfl (w.heap.size+1) (trC 1 0 ⟨#[]⟩ (.slice none 0 0) (.slice none 0 0)) rfl rfl 28 _ bo.out jE rfl uAx ?_;intro w9 h9 k9))
 exact Ab1
theorem aN5 (tk:Int) (ta te:Nat) (tn:Int) (tt:List UInt8) (w:World) (h3:¬tk=3) (h4:¬tk=4) (h:(tt==[91])=true):Calls Tryz.prog 99 #[.agg (bN ⟨tk,ta,te,tn,tt⟩)] w fun e w'=>e=.returned (.tuple #[.agg (trC 4 0 ⟨#[]⟩ (.slice none 0 0) (.slice none 0 0)),.bool true])/\Below w.heap.size w w':=by
 obtain⟨w1,ag⟩:∃w1,((w.alloc (.cells (bN ⟨tk,ta,te,tn,tt⟩) 90)).alloc (.cells (trC 0 0 ⟨#[]⟩ (.slice none 0 0) (.slice none 0 0)) 28)).alloc (.cells (trC 0 0 ⟨#[]⟩ (.slice none 0 0) (.slice none 0 0)) 28)=w1:=⟨_,rfl⟩
 obtain⟨af,ai,aw,jg,al⟩:=dF ag;have d0:w1.cell? ⟨w.heap.size,0,none⟩=some (.int .i64 tk):=aG ai rfl;have d4:w1.cell? ⟨w.heap.size,4,none⟩=some (.string ⟨tt.toArray⟩):=aG ai rfl;have g3:(tk==3)=false:=aE.2 h3;have g4:(tk==4)=false:=aE.2 h4;have q0:(tt==[116,114,117,101])=false:=by rw[eq_of_beq h];decide
 have q1:(tt==[102,97,108,115,101])=false:=by rw[eq_of_beq h];decide
 have q2:(tt==[91])=true:=h;have bl:=iH aw;have kg:=iH jg;have HB1:=iH af;clear ai aw jg af al h h3 h4;go_enter Tryz.func99,Tryz.ntmps99;go_upto_region 2 with fail
 clear ag;go_wp2_with (first
  |(refine lP rfl 3 _ _ rfl (w.heap.size+2) 0 _ rfl rfl rfl 28 _ kg.out uG (show 0<5 by omega) ?_;intro w2 h2 k2;have fx:=iH h2;have bo:=iH (k2.other bl.out (fun e=>by omega));have du:=iH k2;clear h2 k2)
  |(refine aW rfl 28 _ rfl (w.heap.size+2) rfl 28 _ _ _ fx.out Tryz.underlying28 rfl jE ?_)
  |(refine aV rfl 28 _ _ rfl (w.heap.size+1) (trC 4 0 ⟨#[]⟩ (.slice none 0 0) (.slice none 0 0)) rfl rfl 28 _ bo.out jE rfl uAx ?_;intro w9 h9 k9))
 exact Ab1
theorem aN4 (tk:Int) (ta te:Nat) (tn:Int) (tt:List UInt8) (w:World) (h3:¬tk=3) (h4:¬tk=4) (h:(tt==[123])=true):Calls Tryz.prog 99 #[.agg (bN ⟨tk,ta,te,tn,tt⟩)] w fun e w'=>e=.returned (.tuple #[.agg (trC 5 0 ⟨#[]⟩ (.slice none 0 0) (.slice none 0 0)),.bool true])/\Below w.heap.size w w':=by
 obtain⟨w1,ag⟩:∃w1,((w.alloc (.cells (bN ⟨tk,ta,te,tn,tt⟩) 90)).alloc (.cells (trC 0 0 ⟨#[]⟩ (.slice none 0 0) (.slice none 0 0)) 28)).alloc (.cells (trC 0 0 ⟨#[]⟩ (.slice none 0 0) (.slice none 0 0)) 28)=w1:=⟨_,rfl⟩
 obtain⟨af,ai,aw,jg,al⟩:=dF ag;have d0:w1.cell? ⟨w.heap.size,0,none⟩=some (.int .i64 tk):=aG ai rfl;have d4:w1.cell? ⟨w.heap.size,4,none⟩=some (.string ⟨tt.toArray⟩):=aG ai rfl;have g3:(tk==3)=false:=aE.2 h3;have g4:(tk==4)=false:=aE.2 h4;have q0:(tt==[116,114,117,101])=false:=by rw[eq_of_beq h];decide
 have q1:(tt==[102,97,108,115,101])=false:=by rw[eq_of_beq h];decide
 have q2:(tt==[91])=false:=by rw[eq_of_beq h];decide
 have q3:(tt==[123])=true:=h;have bl:=iH aw;have kg:=iH jg;have HB1:=iH af;clear ai aw jg af al h h3 h4;go_enter Tryz.func99,Tryz.ntmps99;go_upto_region 2 with fail
 clear ag;go_wp2_with (first
  |(refine lP rfl 3 _ _ rfl (w.heap.size+2) 0 _ rfl rfl rfl 28 _ kg.out uG (show 0<5 by omega) ?_;intro w2 h2 k2;have fx:=iH h2;have bo:=iH (k2.other bl.out (fun e=>by omega));have du:=iH k2;clear h2 k2)
  |(refine aW rfl 28 _ rfl (w.heap.size+2) rfl 28 _ _ _ fx.out Tryz.underlying28 rfl jE ?_)
  |(refine aV rfl 28 _ _ rfl (w.heap.size+1) (trC 5 0 ⟨#[]⟩ (.slice none 0 0) (.slice none 0 0)) rfl rfl 28 _ bo.out jE rfl uAx ?_;intro w9 h9 k9))
 exact Ab1
theorem aN3 (tk:Int) (ta te:Nat) (tn:Int) (tt:List UInt8) (w:World) (h3:¬tk=3) (h4:¬tk=4) (h:(tt==[60])=true):Calls Tryz.prog 99 #[.agg (bN ⟨tk,ta,te,tn,tt⟩)] w fun e w'=>e=.returned (.tuple #[.agg (trC 6 0 ⟨#[]⟩ (.slice none 0 0) (.slice none 0 0)),.bool true])/\Below w.heap.size w w':=by
 obtain⟨w1,ag⟩:∃w1,((w.alloc (.cells (bN ⟨tk,ta,te,tn,tt⟩) 90)).alloc (.cells (trC 0 0 ⟨#[]⟩ (.slice none 0 0) (.slice none 0 0)) 28)).alloc (.cells (trC 0 0 ⟨#[]⟩ (.slice none 0 0) (.slice none 0 0)) 28)=w1:=⟨_,rfl⟩
 obtain⟨af,ai,aw,jg,al⟩:=dF ag;have d0:w1.cell? ⟨w.heap.size,0,none⟩=some (.int .i64 tk):=aG ai rfl;have d4:w1.cell? ⟨w.heap.size,4,none⟩=some (.string ⟨tt.toArray⟩):=aG ai rfl;have g3:(tk==3)=false:=aE.2 h3;have g4:(tk==4)=false:=aE.2 h4;have q0:(tt==[116,114,117,101])=false:=by rw[eq_of_beq h];decide
 have q1:(tt==[102,97,108,115,101])=false:=by rw[eq_of_beq h];decide
 have q2:(tt==[91])=false:=by rw[eq_of_beq h];decide
 have q3:(tt==[123])=false:=by rw[eq_of_beq h];decide
 have q4:(tt==[60])=true:=h;have bl:=iH aw;have kg:=iH jg;have HB1:=iH af;clear ai aw jg af al h h3 h4;go_enter Tryz.func99,Tryz.ntmps99;go_upto_region 2 with fail
 clear ag;go_wp2_with (first
  |(refine lP rfl 3 _ _ rfl (w.heap.size+2) 0 _ rfl rfl rfl 28 _ kg.out uG (show 0<5 by omega) ?_;intro w2 h2 k2;have fx:=iH h2;have bo:=iH (k2.other bl.out (fun e=>by omega));have du:=iH k2;clear h2 k2)
  |(refine aW rfl 28 _ rfl (w.heap.size+2) rfl 28 _ _ _ fx.out Tryz.underlying28 rfl jE ?_)
  |(refine aV rfl 28 _ _ rfl (w.heap.size+1) (trC 6 0 ⟨#[]⟩ (.slice none 0 0) (.slice none 0 0)) rfl rfl 28 _ bo.out jE rfl uAx ?_;intro w9 h9 k9))
 exact Ab1
theorem aN2 (tk:Int) (ta te:Nat) (tn:Int) (tt:List UInt8) (w:World) (h3:¬tk=3) (h4:¬tk=4) (h:(tt==[110,117,108,108])=true):Calls Tryz.prog 99 #[.agg (bN ⟨tk,ta,te,tn,tt⟩)] w fun e w'=>e=.returned (.tuple #[.agg (trC 0 0 ⟨#[]⟩ (.slice none 0 0) (.slice none 0 0)),.bool true])/\Below w.heap.size w w':=by
 obtain⟨w1,ag⟩:∃w1,((w.alloc (.cells (bN ⟨tk,ta,te,tn,tt⟩) 90)).alloc (.cells (trC 0 0 ⟨#[]⟩ (.slice none 0 0) (.slice none 0 0)) 28)).alloc (.cells (trC 0 0 ⟨#[]⟩ (.slice none 0 0) (.slice none 0 0)) 28)=w1:=⟨_,rfl⟩
 obtain⟨af,ai,aw,jg,al⟩:=dF ag;have d0:w1.cell? ⟨w.heap.size,0,none⟩=some (.int .i64 tk):=aG ai rfl;have d4:w1.cell? ⟨w.heap.size,4,none⟩=some (.string ⟨tt.toArray⟩):=aG ai rfl;have g3:(tk==3)=false:=aE.2 h3;have g4:(tk==4)=false:=aE.2 h4;have q0:(tt==[116,114,117,101])=false:=by rw[eq_of_beq h];decide
 have q1:(tt==[102,97,108,115,101])=false:=by rw[eq_of_beq h];decide
 have q2:(tt==[91])=false:=by rw[eq_of_beq h];decide
 have q3:(tt==[123])=false:=by rw[eq_of_beq h];decide
 have q4:(tt==[60])=false:=by rw[eq_of_beq h];decide
 have q5:(tt==[110,117,108,108])=true:=h;have bl:=iH aw;have kg:=iH jg;have HB1:=iH af;clear ai aw jg af al h h3 h4;go_enter Tryz.func99,Tryz.ntmps99;go_upto_region 2 with fail
 clear ag;go_wp2_with (first
  |(refine aW rfl 28 _ rfl (w.heap.size+2) rfl 28 _ _ _ kg.out Tryz.underlying28 rfl jE ?_)
  |(refine aV rfl 28 _ _ rfl (w.heap.size+1) (trC 0 0 ⟨#[]⟩ (.slice none 0 0) (.slice none 0 0)) rfl rfl 28 _ bl.out jE rfl uAx ?_;intro w9 h9 k9))
 exact Af8
theorem aEY (tk:Int) (ta te:Nat) (tn:Int) (tt:List UInt8) (w:World) (h3:¬tk=3) (h4:¬tk=4) (h:(tt==[116,114,117,101])=false/\(tt==[102,97,108,115,101])=false/\(tt==[91])=false/\(tt==[123])=false/\(tt==[60])=false/\(tt==[110,117,108,108])=false):Calls Tryz.prog 99 #[.agg (bN ⟨tk,ta,te,tn,tt⟩)] w fun e w'=>e=.returned (.tuple #[.agg (trC 0 0 ⟨#[]⟩ (.slice none 0 0) (.slice none 0 0)),.bool false])/\Below w.heap.size w w':=by
 obtain⟨w1,ag⟩:∃w1,((w.alloc (.cells (bN ⟨tk,ta,te,tn,tt⟩) 90)).alloc (.cells (trC 0 0 ⟨#[]⟩ (.slice none 0 0) (.slice none 0 0)) 28)).alloc (.cells (trC 0 0 ⟨#[]⟩ (.slice none 0 0) (.slice none 0 0)) 28)=w1:=⟨_,rfl⟩
 obtain⟨af,ai,aw,jg,al⟩:=dF ag;have d0:w1.cell? ⟨w.heap.size,0,none⟩=some (.int .i64 tk):=aG ai rfl;have d4:w1.cell? ⟨w.heap.size,4,none⟩=some (.string ⟨tt.toArray⟩):=aG ai rfl;have g3:(tk==3)=false:=aE.2 h3;have g4:(tk==4)=false:=aE.2 h4;have q0:(tt==[116,114,117,101])=false:=h.1;have q1:(tt==[102,97,108,115,101])=false:=h.2.1;have q2:(tt==[91])=false:=h.2.2.1;have q3:(tt==[123])=false:=h.2.2.2.1;have q4:(tt==[60])=false:=h.2.2.2.2.1;have q5:(tt==[110,117,108,108])=false:=h.2.2.2.2.2;have bl:=iH aw;have kg:=iH jg;have HB1:=iH af;clear ai aw jg af al h h3 h4;go_enter Tryz.func99,Tryz.ntmps99;go_upto_region 2 with fail
 clear ag;go_wp2_with (first
  |(refine aV rfl 28 _ _ rfl (w.heap.size+1) (trC 0 0 ⟨#[]⟩ (.slice none 0 0) (.slice none 0 0)) rfl rfl 28 _ bl.out jE rfl uAx ?_;intro w9 h9 k9))
 exact Af8
def hdV (t:Tok):Array Value:=match hdS t with
 |some y=>trC y.1 y.2.1 ⟨y.2.2.1.toArray⟩ (.slice none 0 0) (.slice none 0 0)
 |none=>(trC 0 0 ⟨#[]⟩ (.slice none 0 0) (.slice none 0 0))
theorem aQV:∀y∈gE,((y==[116,114,117,101])=false/\(y==[102,97,108,115,101])=false/\(y==[110,117,108,108])=false):=by decide
theorem aQ2 (t:Tok) (hg:wO t.r) (w:World):Calls Tryz.prog 99 #[.agg (bN t)] w fun e w'=>e=.returned (.tuple #[.agg (hdV t),.bool (hdS t).isSome])/\Below w.heap.size w w':=by
 obtain⟨tk,ta,te,tn,tt⟩:=t;rcases hg with⟨h,_,hs⟩|⟨h,_,hn⟩|⟨h,_,ht⟩|⟨h,hn⟩<;>simp only[Tok.r]at*
 ·subst h
  obtain⟨s1,s2,s3⟩:=aQV tt hs;by_cases c1:tt=[91]
  ·subst c1;exact aN5 1 ta te tn _ w uAv uAv rfl
  ·by_cases c2:tt=[123]
   ·subst c2;exact aN4 1 ta te tn _ w uAv uAv rfl
   ·by_cases c3:tt=[60]
    ·subst c3;exact aN3 1 ta te tn _ w uAv uAv rfl
    ·have hh:hdS ⟨1,ta,te,tn,tt⟩=none:=by
      unfold hdS;simp[c1,c2,c3]
     unfold hdV;rw[hh];exact aEY 1 ta te tn _ w uAv uAv ⟨s1,s2,aE.2 c1,aE.2 c2,aE.2 c3,s3⟩
 ·subst h
  have bn:∀c:UInt8,uW c=false->tt≠[c]:=fun c hc e=>by
   subst e;have h2:(uW c&&([]:List UInt8).all fun c=>uW c||iM c)=true:=hn;rw[hc]at h2;cases h2
  by_cases c1:tt=[110,117,108,108]
  ·subst c1;exact aN2 2 ta te tn _ w uAv uAv rfl
  ·by_cases c2:tt=[116,114,117,101]
   ·subst c2;exact aN7 2 ta te tn _ w uAv uAv rfl
   ·by_cases c3:tt=[102,97,108,115,101]
    ·subst c3;exact aN6 2 ta te tn _ w uAv uAv rfl
    ·have hh:hdS ⟨2,ta,te,tn,tt⟩=none:=by
      unfold hdS;simp[c1,c2,c3]
     unfold hdV;rw[hh];exact aEY 2 ta te tn _ w uAv uAv ⟨aE.2 c2,aE.2 c3,aE.2 (bn 91 uAv),aE.2 (bn 123 uAv),aE.2 (bn 60 uAv),aE.2 c1⟩
 ·subst h;exact aJM 3 ta te tn tt w rfl
 ·subst h;exact aJL 4 ta te tn tt w rfl
theorem rM {o:Oper} {a:Act} {w:World} {K:Act->World->Prop} {Q:Exit->Act->World->Prop} (ty:TypeId) (x y:Operand) (ho:o.op=.store ty x y)
  (X k:Nat) (v:Value) (hx:a.eval x=.pointer (some ⟨X,k,none⟩)) (hy:a.eval y=v) (h1:v.oneCell'=true) (T:TypeId) (c:Array Value) (hB:w.heap[X]? =some (.cells c T (0,0))) (hk:k<c.size)
  (hi:(Tryz.prog.info? ty).map (·.size)=some 1)
  (h:∀w',w'.heap[X]? =some (.cells (c.setIfInBounds k v) T (0,0))->iL X w w'->K (a.put o.dst undef) w'):o.wp Tryz.prog a w K Q:=by
 unfold Oper.wp execOp;simp only[ho,hx,hy,Instr.storeAt,Instr.sureAddr,eG,eZ,cR,lX w X k T ty c v hB hk hi h1];exact h _ (lY w X _ _ _ _ hB) (iI _ _ _)
theorem aLG (v:Value) (w:World):(Instr.typeAssert (.iface 101 v) 20 101 true).run Tryz.prog w=.ok (.tuple #[v,.bool true]) w:=by kernel_rfl
theorem aEG:(Tryz.prog.info? 3).map (·.size)=some 1:=by kernel_rfl
theorem aEO:(Tryz.prog.info? 45).map (·.size)=some 1:=by kernel_rfl
theorem aE2 (p q r:Addr) (w:World):CallsD Tryz.prog 52 #[.pointer (some p),.pointer (some q),.pointer (some r)] .returning w fun e u' w'=>e=.returned (.tuple #[])/\u'=.returning/\w'=w:=by
 refine callsD_of_wpS Tryz.func52 rfl fun Sy cs hu=> ?_
 simp only[Tryz.ntmps52,bI,aD,aK,Nat.reduceAdd,Nat.reduceSub,bT,bS,cH,bU,aT,aP];apply wpS_seq;apply wpS_region;simp[wpOpsS,go_sem,recoverD,hu,Exit.thenS];refine wpS_of_wp ?_;go_wp2_with fail
 cases Sy
 simp_all[bodyPostS,results,Tryz.f52]
theorem uR (p q r S:Nat) (E:Value) (c n:Int) (w:World) (y:Cel) (v1 v2:Value) (hp:w.heap[p]? =some (.cells (aL y) 37 (0,0))) (hq:w.heap[q]? =some (.cells #[v1] 3 (0,0))) (hr:w.heap[r]? =some (.cells #[v2] 45 (0,0)))
  (hE:fR S w E c n) (hc:c≠0) (h1:p<q) (h2:q<r) (h3:r<S):
  CallsD Tryz.prog 52 #[.pointer (some ⟨p,0,none⟩),.pointer (some ⟨q,0,none⟩),.pointer (some ⟨r,0,none⟩)] (.panicking [brk E]) w fun e u' w'=>e=.returned (.tuple #[])/\u'=.panicking [{v:=(brk E).v,recovered:=true}]/\
   w'.heap[p]? =some (.cells #[.int .i64 0,.int .i64 0,.string ⟨#[]⟩,.pointer none] 37 (0,0))/\w'.heap[q]? =some (.cells #[.int .i64 0] 3 (0,0))/\w'.heap[r]? =some (.cells #[E] 45 (0,0))/\Below p w w'/\fR S w' E c n:=by
 obtain⟨b,hb⟩:=hE.shape hc;have DY:E.oneCell'=true:=by rw[hb];rfl
 unfold brk;have HP:=iH hp;have HQ:=iH hq;have HR:=iH hr;have HE:=iH hE;have DZ:=iH DY;have HO:=iH (And.intro h1 (And.intro h2 h3));have ue:=aLG (.agg #[E]);have EA:=(gZ hp)
 have Kn:=(gZ hq)
 have EB:=(gZ hr)
 have HZ:=iH (And.intro EA (And.intro Kn EB));clear hp hq hr hE DY h1 h2 h3 EA Kn EB hb;refine callsD_of_wpS Tryz.func52 rfl fun Sy cs hu=> ?_
 simp only[Tryz.ntmps52,bI,aD,aK,Nat.reduceAdd,Nat.reduceSub,bT,bS,cH,bU,aT,aP];apply wpS_seq;apply wpS_region;simp[wpOpsS,go_sem,recoverD,hu,Exit.thenS];refine wpS_of_wp ?_;go_upto_region 7 with(first
  |(refine aV rfl 101 _ _ rfl w.heap.size #[E] rfl rfl 101 _ (aC _ _) uAu rfl (by simp[DZ.out]) ?_;intro w1 h1 k1))
 have HX:=iH h1;have HB1:Hid (Below w.heap.size w w1):=(Below.newly' w _).trans (k1.below (aA _));have rf:=iH ((HB1.out.block _ HZ.out.1).trans HP.out);have ve:=iH ((HB1.out.block _ HZ.out.2.1).trans HQ.out);have HR1:=iH ((HB1.out.block _ HZ.out.2.2).trans HR.out);have Yf:=iH (HE.out.later HB1.out);obtain⟨X4,Zj⟩:∃X4,X4=w.heap.size:=⟨_,rfl⟩
 have bw:Hid (r<X4):=by rw[Zj];exact HZ.out.2.2
 rw[<-Zj]at HX ⊢;clear h1 k1 Zj;refine bO (S:=(fun V=>V.cell? ⟨X4,0,none⟩=some E)) [] uAu uPx (fun ab=> ?_);obtain⟨wd,j9⟩:∃wd,wd=w1.drew:=⟨_,rfl⟩
 have sh:Below w1.heap.size w1 wd:=by rw[j9];exact aY w1
 rw[<-j9]at ab ⊢;clear j9;have uy:=iH (kW sh rf.out);have El:=iH (kW sh ve.out);have gl:=iH (kW sh HR1.out);have Cw:=iH (Yf.out.later sh);have aq:Hid (Below w.heap.size w wd):=tW HB1.out sh;replace HX:=iH (kW sh HX.out);clear sh;refine tkL 0 12 (h:=?_);refine tkL 1 13 (h:=?_);(try simp only[pq]);refine tkL 2 14 (h:=?_);(try simp only[pq]);refine tkO 3 none (h:=fun K hK=> ?_);refine eC 37 _ _ rfl p #[.int .i64 0,.int .i64 0,.string ⟨#[]⟩,.pointer none] rfl rfl 37 _ uy.out aF rfl uAx ?_;intro wA hA kA;replace HX:=iH (kA.other HX.out uLx);refine hK.out _ _ uPx (fun ab=> ?_);clear hK K;(try simp only[pq]);refine tkO 4 none (h:=fun K hK=> ?_);refine rM 3 _ _ rfl q 0 (.int .i64 0) rfl rfl rfl 3 _ (kA.other El.out uXv) uAy aEG ?_;intro wB hB kB;replace HX:=iH (kB.other HX.out uLx);refine hK.out _ _ uPx (fun ab=> ?_);clear hK K;(try simp only[pq]);refine tkO 5 none (h:=fun K hK=> ?_);refine rM 45 _ _ rfl r 0 E rfl rfl DZ.out 45 _ (kB.other (kA.other gl.out uXv) uXv) uAy aEO ?_;intro wC hC kC;replace HX:=iH (kC.other HX.out uLx);refine hK.out _ _ uPx (fun ab=> ?_);clear hK K;(try simp only[pq]);refine bJ uAu ?_ _;have ho:=HO.out;have hz:=HZ.out;refine⟨rfl,_,rfl,_,(by simp[results,Tryz.f52]),rfl,rfl,?_⟩;exact⟨kC.other (kB.other hA hO) hO,kC.other hB hO,hC,(aq.out.mono hO).trans ((kA.below (aA _)).trans ((kB.below hO).trans (kC.below hO))),((Cw.out.but kA hO).but kB hO).but kC hO⟩
def Put (B:Nat) (w:World) (l:List UInt8) (e:Ending) (w':World):Prop:=∃v',e=.returned v'/\Buf B v' l w'/\Below B w w'
theorem aHV (y:Int) (h0:0<=y) (h1:y<16) (w:World):(Instr.index 9 (.string ⟨#[48,49,50,51,52,53,54,55,56,57,97,98,99,100,101,102]⟩) (.int .u8 y)).run Tryz.prog w=.ok (.int .u8 ((hxD y.toNat).toNat:Int)) w:=by
 obtain⟨n,rfl⟩:∃n:Nat,y=n:=⟨y.toNat,by omega⟩
 have:n=0\/n=1\/n=2\/n=3\/n=4\/n=5\/n=6\/n=7\/n=8\/n=9\/n=10\/n=11\/n=12\/n=13\/n=14\/n=15:=by omega
 rcases this with rfl|rfl|rfl|rfl|rfl|rfl|rfl|rfl|rfl|rfl|rfl|rfl|rfl|rfl|rfl|rfl
 all_goals
  clear h0 h1;show _=_;kernel_rfl
theorem and15 (n:Nat) (h:n<256):bits .and .u8 (n:Int) 15=((n % 16:Nat):Int):=by
 have:∀n:Fin 256,bits .and .u8 ((n.val:Nat):Int) 15=((n.val % 16:Nat):Int):=by decide+kernel
 exact this ⟨n,h⟩
theorem aHe (B:Nat) (v:Value) (l:List UInt8) (c:UInt8) (w:World) (hb:Buf B v l w) (hl:l.length<=10000002):Calls Tryz.prog 158 #[v,.int .u8 (c.toNat:Int)] w (Put B w (l++[hxD (c.toNat/16),hxD (c.toNat % 16)])):=by
 have hc:(c.toNat:Int)<256:=by have:=c.toNat_lt;omega
 obtain⟨x,hx⟩:∃x:Int,(c.toNat:Int)=x:=⟨_,rfl⟩
 have HX:=iH hx;have uj:0<=x:=by omega
 have ai:x<256:=by omega
 clear hc;obtain⟨y,hy⟩:∃y,x/16=y:=⟨_,rfl⟩
 obtain⟨z,hz⟩:∃z,bits .and .u8 x 15=z:=⟨_,rfl⟩
 have HZ:Hid (z.toNat=c.toNat % 16/\0<=z/\z<16):=by
  have h:=and15 c.toNat c.toNat_lt;rw[HX.out,hz]at h;show _/\_;omega
 have HY:Hid (y.toNat=c.toNat/16/\0<=y/\y<16):=by
  show _/\_;have:=HX.out;omega
 have HB:=iH hb;have HQ:Hid (l.length+[hxD y.toNat,hxD z.toNat].length<=140737488355328):=by
  have h2:([hxD y.toNat,hxD z.toNat]:List UInt8).length=2:=rfl;show _<=_;omega
 have HN:=iH (aAq w [hxD y.toNat,hxD z.toNat] _ rfl);clear hb hl;have i1:=fun w=>aHV y HY.out.2.1 HY.out.2.2 w
 have i2:=fun w=>aHV z HZ.out.2.1 HZ.out.2.2 w
 go_enter Tryz.func158,Tryz.ntmps158;go_wp2_with fail
 go_region_held3 (fun _=>True) (first|exact trivial)
  (first|(go_loud (refine aQ9 rfl (.tmp 5) (.tmp 12) rfl rfl ((HB.out.alloc _).drew) [hxD y.toNat,hxD z.toNat] ⟨w.heap.size,0,none⟩ 2 rfl HN.out HQ.out ?_);intro v2 w2 ah cw;have aq:=iH ah;have fu:=iH cw;clear ah cw))
 all_goals go_wp2_with fail
 all_goals
  go_ret;have h:=aq.out;rw[HY.out.1,HZ.out.1]at h;exact⟨_,rfl,h,(((bB _ _).alloc HB.out.2 _).drew).trans fu.out⟩
theorem aCf (B:Nat) (v:Value) (l:List UInt8) (c:UInt8) (w:World) (hb:Buf B v l w) (hl:l.length<=10000000) (hT:Esc w):Calls Tryz.prog 117 #[v,.int .u8 (c.toNat:Int)] w (Put B w (l++kI c)):=by
 have hc:(c.toNat:Int)<256:=by have:=c.toNat_lt;omega
 have HB:=iH hb;have HT:=iH hT;have bz:=iH hl;clear hb hT hl;by_cases h34:(c.toNat:Int)=34
 ·rw[aHs hO]
  have HC:Hid (c=34):=gX.1 (by show c.toNat=34;omega);rw[h34];clear h34;rw[HC.out];go_enter Tryz.func117,Tryz.ntmps117;go_wp2_with (first
   |(go_at_call 157;refine(aDQ _ HT.out).mono ?_;rintro e w1 ⟨rfl,af⟩;have H1:=iH af;clear af)
   |(at_builtin;go_loud (refine cT rfl (.tmp 13) (.tmp 15) rfl rfl (HB.out.later H1.out) [92,34] _ rfl 2 2 rfl rfl (by have:=bz.out;have h1:[(92:UInt8),34].length=2:=rfl;omega) ?_);intro v2 w2 ah cw;have aq:=iH ah;have fu:=iH cw;clear ah cw))
  exact Ac6
 by_cases E4:(c.toNat:Int)=92
 ·rw[aHs hO]
  have HC:Hid (c=92):=gX.1 (by show c.toNat=92;omega);rw[E4];clear E4;rw[HC.out];go_enter Tryz.func117,Tryz.ntmps117;go_wp2_with (first
   |(go_at_call 157;refine(aDP _ HT.out).mono ?_;rintro e w1 ⟨rfl,af⟩;have H1:=iH af;clear af)
   |(at_builtin;go_loud (refine cT rfl (.tmp 13) (.tmp 15) rfl rfl (HB.out.later H1.out) [92,92] _ rfl 2 2 rfl rfl (by have:=bz.out;have h1:[(92:UInt8),92].length=2:=rfl;omega) ?_);intro v2 w2 ah cw;have aq:=iH ah;have fu:=iH cw;clear ah cw))
  exact Ac6
 by_cases Ko:(c.toNat:Int)=10
 ·rw[aTf Ko]
  rw[Ko];clear Ko;go_enter Tryz.func117,Tryz.ntmps117;go_wp2_with (first
   |(go_at_call 157;refine(aDS _ HT.out).mono ?_;rintro e w1 ⟨rfl,af⟩;have H1:=iH af;clear af)
   |(at_builtin;go_loud (refine cT rfl (.tmp 13) (.tmp 15) rfl rfl (HB.out.later H1.out) [92,110] _ rfl 2 2 rfl rfl (by have:=bz.out;have h1:[(92:UInt8),110].length=2:=rfl;omega) ?_);intro v2 w2 ah cw;have aq:=iH ah;have fu:=iH cw;clear ah cw))
  exact Ac6
 by_cases h9:(c.toNat:Int)=9
 ·rw[one_9 h9]
  rw[h9];clear h9;go_enter Tryz.func117,Tryz.ntmps117;go_wp2_with (first
   |(go_at_call 157;refine(aFD _ HT.out).mono ?_;rintro e w1 ⟨rfl,af⟩;have H1:=iH af;clear af)
   |(at_builtin;go_loud (refine cT rfl (.tmp 13) (.tmp 15) rfl rfl (HB.out.later H1.out) [92,116] _ rfl 2 2 rfl rfl (by have:=bz.out;have h1:[(92:UInt8),116].length=2:=rfl;omega) ?_);intro v2 w2 ah cw;have aq:=iH ah;have fu:=iH cw;clear ah cw))
  exact Ac6
 by_cases Kr:(c.toNat:Int)=13
 ·rw[aTe Kr]
  rw[Kr];clear Kr;go_enter Tryz.func117,Tryz.ntmps117;go_wp2_with (first
   |(go_at_call 157;refine(aDR _ HT.out).mono ?_;rintro e w1 ⟨rfl,af⟩;have H1:=iH af;clear af)
   |(at_builtin;go_loud (refine cT rfl (.tmp 13) (.tmp 15) rfl rfl (HB.out.later H1.out) [92,114] _ rfl 2 2 rfl rfl (by have:=bz.out;have h1:[(92:UInt8),114].length=2:=rfl;omega) ?_);intro v2 w2 ah cw;have aq:=iH ah;have fu:=iH cw;clear ah cw))
  exact Ac6
 have b1:((34:Int)==(c.toNat:Int))=false:=aE.2 (kX h34);have b2:((92:Int)==(c.toNat:Int))=false:=aE.2 (kX E4);have b3:((10:Int)==(c.toNat:Int))=false:=aE.2 (kX Ko);have b4:((9:Int)==(c.toNat:Int))=false:=aE.2 (kX h9);have b5:((13:Int)==(c.toNat:Int))=false:=aE.2 (kX Kr);have HX:=iH (fun w h=>aFC (c.toNat:Int) w h b1 b2 b3 b4 b5);clear b1 b2 b3 b4 b5;by_cases hx:(c.toNat:Int)<32\/126<(c.toNat:Int)
 ·rw[one_x ⟨h34,E4,Ko,h9,Kr,hx⟩]
  clear h34 E4 Ko h9 Kr;have na:Hid ((l++[92,120]).length<=10000002):=by
   have:=bz.out;show _<=_;rw[aB];have h1:[(92:UInt8),120].length=2:=rfl;omega
  rcases hx with hx|hx
  all_goals
   go_enter Tryz.func117,Tryz.ntmps117;go_wp2_with (first
    |(go_at_call 157;refine(HX.out _ HT.out).mono ?_;rintro e w1 ⟨rfl,af⟩;have H1:=iH af;clear af)
    |(at_builtin;go_loud (refine cT rfl (.tmp 23) (.tmp 24) rfl rfl (HB.out.later H1.out) [92,120] _ rfl 2 2 rfl rfl (by have:=bz.out;have h1:[(92:UInt8),120].length=2:=rfl;omega) ?_);intro v2 w2 ah cw;have aq:=iH ah;have fu:=iH cw;clear ah cw)
    |(go_at_call 158;refine(aHe _ _ _ c _ aq.out na.out).mono ?_;rintro e w3 ⟨v3,rfl,au,Mn⟩;have av:=iH au;have pb:=iH Mn;clear au Mn))
   go_ret;refine⟨_,rfl,?_,((Below.mono H1.out HB.out.2).trans fu.out).trans pb.out⟩;have:=av.out;rw[bG]at this;exact this
 ·rw[one_c ⟨h34,E4,Ko,h9,Kr,hx⟩]
  have x1:¬(c.toNat:Int)<32:=by omega
  have x2:¬126<(c.toNat:Int):=by omega
  clear h34 E4 Ko h9 Kr hx;go_enter Tryz.func117,Tryz.ntmps117;go_wp2_with (first
   |(go_at_call 157;refine(HX.out _ HT.out).mono ?_;rintro e w1 ⟨rfl,af⟩;have H1:=iH af;clear af)
   |(at_builtin;go_loud (refine cT rfl (.tmp 28) (.tmp 30) rfl rfl (HB.out.later H1.out) [c] _ rfl 1 1 rfl rfl (by have:=bz.out;have h1:[c].length=1:=rfl;omega) ?_);intro v2 w2 ah cw;have aq:=iH ah;have fu:=iH cw;clear ah cw))
  exact Ac6
theorem aHc (s:ByteArray) (k:Nat) (hk:k<=s.size):(34::(s.data.toList.take k).flatMap kI).length<=4*s.size+1:=by
 have:=aPn kI 4 (fun c=>(aOo c).2) (s.data.toList.take k);rw[bQ]at this;rw[aD];omega
theorem aFF (s:ByteArray) (w:World) (hs:s.size<=2000000) (hT:Esc w):Calls Tryz.prog 74 #[.string s] w fun e w'=>e=.returned (.string ⟨(gI s.data.toList).toArray⟩)/\Below w.heap.size w w':=by
 have HT:=iH hT;clear hT;go_enter Tryz.func74,Tryz.ntmps74;go_wp2_with (first
  |(refine aIw rfl _ _ rfl _ _ _ (s.size+2) rfl rfl hO hO (aA w.heap.size) ?_;intro v0 w0 mf Rs;have tb:=iH mf;have Rt:=iH Rs;clear mf Rs)
  |(at_builtin;go_loud (refine cT rfl (.tmp 9) (.tmp 10) rfl rfl tb.out [34] _ rfl 1 1 rfl rfl (by have h1:[(34:UInt8)].length=1:=rfl;simp) ?_);intro v1 w1 af th;have HB1:=iH af;have Ru:=iH th;clear af th))
 go_loopw [3,14] (fun v i wr=>∃k:Nat,k<=s.size/\i=.int .i64 k/\Buf w.heap.size v (34::(s.data.toList.take k).flatMap kI) wr/\Below w.heap.size w wr) (fun _ i _=>s.size-(intOf i).toNat)
 case atStart=>exact⟨0,aS _,rfl,HB1.out,Rt.out.trans Ru.out⟩
 case round=>
  obtain⟨k,hk,rfl,ot,om⟩:=hrel;have HB:=iH ot;have HW:=iH om;have bz:=iH (aHc s k hk);clear ot om tb Rt HB1 Ru;by_cases hlt:k<s.size
  ·have HF:=iH (aMH s kI k hlt)
   go_wp2_with (go_at_call 117;refine(aCf _ _ _ s[k] _ HB.out (by have:=bz.out;omega) (HT.out.below HW.out)).mono ?_;rintro e w2 ⟨v2,rfl,ah,cw⟩;have aq:=iH ah;have fu:=iH cw;clear ah cw)
   go_roundw
   case rel=>exact⟨k+1,by omega,by go_num,by rw[HF.out];exact aq.out,HW.out.trans fu.out⟩
   case measure=>simp[intOf];omega
  ·have HF:Hid ((s.data.toList.take k).flatMap kI=s.data.toList.flatMap kI):=by
    show _=_;rw[bC (by rw[cY];omega)]
   go_wp2_with (at_builtin;go_loud (refine cT rfl (.tmp 23) (.tmp 24) rfl rfl HB.out [34] _ rfl 1 1 rfl rfl (by have:=bz.out;have h1:[(34:UInt8)].length=1:=rfl;omega) ?_);intro v2 w2 ah cw;have z8:=ah.str;have fu:=iH cw;clear ah cw)
   go_ret;exact⟨by unfold gI;rw[<-HF.out];rfl,HW.out.trans fu.out⟩
end Go.Proofs.YthmfgidbcghnfaaGreatDoor
