/- Parts of the proof: NeL. -/
import Derived.Test.YteimojoicfjdjaaGreatZ32
import Derived.Test.YteimojoicfjdjaaGreatZ44
import Derived.BigGuardPart
import Derived.Deep.DeepCutAuto
namespace Go.Proofs.YteimojoicfjdjaaGreat
set_option maxRecDepth 20000
set_option maxHeartbeats 32000000
open Value renaming int → I
open IntKind renaming i64 → Z
open Go.RowKit Pl
set_option linter.unusedSimpArgs false
set_option linter.unusedVariables false
theorem Blk.resA{fn:Func}{p:Tmp}{T:TypeId}{b:Nat}{vs:List Value}{w:World}{n:Nat}{e:TypeId}(hB:Blk w b vs)(tmps:Array Value)(h:fn.results=#[.cell p T])(hu:Tryz.prog.underlying T=some (.array n e))(hi:(Tryz.prog.info? T).map (·.size)=some vs.toArray.size)(hp:tmps.getD p undef=.pointer (some ⟨b,0,none⟩)) :
  (results fn tmps).run Tryz.prog w=.ok (.agg vs.toArray) w:=by
 obtain ⟨T',h'⟩:=hB.o
 exact results_cell_row h tmps w b T' vs.toArray (0,0) (.array n e) hp h' hu rfl hi
theorem needsIn_any(h:Hs)(ds:List Dk)(da:Option Addr)(dc:Nat)(nx:Int)(ps:List Pe)(pa:Option Addr)(pc:Nat)(tk:Int)(rc:Bool)(sh:Int)(gf:Gr.fault ⟨h,ds,⟨nx,ps⟩,tk,rc⟩=0)(s0:0≤sh)(s1:sh < ds.length)(hld:ds.length≤1048576)(hlp:ps.length≤1048576)(w:World)(hD:DIn w w.heap.size da ds)(hP:PIn w w.heap.size pa ps) :
  Calls Tryz.prog 87 #[.agg #[I Z h.fl,I Z h.gp,I Z h.ln,I Z h.rf,I Z h.sp,I Z h.pu,I Z h.br,I Z h.dr,I Z h.lv,I Z h.dO,I Z h.ld,I Z h.qu,.slice da ds.length dc,I Z nx,.slice pa ps.length pc,I Z tk,.bool rc],I Z sh] w fun e w'=>e=.returned (.agg #[I Z (need8 h ds ps rc sh 0).1,I Z (need8 h ds ps rc sh 0).2.1,I Z (need8 h ds ps rc sh 0).2.2,I Z (need8 h ds ps rc sh 1).1,I Z (need8 h ds ps rc sh 1).2.1,I Z (need8 h ds ps rc sh 1).2.2])∧Below w.heap.size w w':=by
 have HD:=zH hD
 have HP:=zH hP
 have F0:Hid (Blk ((w.alloc (.cells #[I Z h.fl,I Z h.gp,I Z h.ln,I Z h.rf,I Z h.sp,I Z h.pu,I Z h.br,I Z h.dr,I Z h.lv,I Z h.dO,I Z h.ld,I Z h.qu,.slice da ds.length dc,I Z nx,.slice pa ps.length pc,I Z tk,.bool rc] 37)).alloc (.cells #[I Z 0,I Z 0,I Z 0,I Z 0,I Z 0,I Z 0] 98)) w.heap.size (gvs h (.slice da ds.length dc) nx (.slice pa ps.length pc) tk rc)):=(Blk.at_ w #[I Z h.fl,I Z h.gp,I Z h.ln,I Z h.rf,I Z h.sp,I Z h.pu,I Z h.br,I Z h.dr,I Z h.lv,I Z h.dO,I Z h.ld,I Z h.qu,.slice da ds.length dc,I Z nx,.slice pa ps.length pc,I Z tk,.bool rc] _ _ rfl).alloc _
 have F1:Hid (Blk ((w.alloc (.cells #[I Z h.fl,I Z h.gp,I Z h.ln,I Z h.rf,I Z h.sp,I Z h.pu,I Z h.br,I Z h.dr,I Z h.lv,I Z h.dO,I Z h.ld,I Z h.qu,.slice da ds.length dc,I Z nx,.slice pa ps.length pc,I Z tk,.bool rc] 37)).alloc (.cells #[I Z 0,I Z 0,I Z 0,I Z 0,I Z 0,I Z 0] 98)) (w.heap.size + 1) [I Z 0,I Z 0,I Z 0,I Z 0,I Z 0,I Z 0]):=Blk.at_ _ #[I Z 0,I Z 0,I Z 0,I Z 0,I Z 0,I Z 0] _ _ (by simp)
 have FB:Hid (Below w.heap.size w ((w.alloc (.cells #[I Z h.fl,I Z h.gp,I Z h.ln,I Z h.rf,I Z h.sp,I Z h.pu,I Z h.br,I Z h.dr,I Z h.lv,I Z h.dO,I Z h.ld,I Z h.qu,.slice da ds.length dc,I Z nx,.slice pa ps.length pc,I Z tk,.bool rc] 37)).alloc (.cells #[I Z 0,I Z 0,I Z 0,I Z 0,I Z 0,I Z 0] 98))):=((Below.refl _ _).alloc (Nat.le_refl _) _).alloc (by simp) _
 obtain ⟨W0,hW0⟩:∃ W0,W0=((w.alloc (.cells #[I Z h.fl,I Z h.gp,I Z h.ln,I Z h.rf,I Z h.sp,I Z h.pu,I Z h.br,I Z h.dr,I Z h.lv,I Z h.dO,I Z h.ld,I Z h.qu,.slice da ds.length dc,I Z nx,.slice pa ps.length pc,I Z tk,.bool rc] 37)).alloc (.cells #[I Z 0,I Z 0,I Z 0,I Z 0,I Z 0,I Z 0] 98)):=⟨_,rfl⟩
 rw [← hW0] at F0 F1 FB
 have HW0:=zH hW0
 clear hW0 hD hP
 have HF:=zH gf
 clear gf
 go_enter Tryz.func87,Tryz.ntmps87
 go_upto_region 1 with fail
 rw [← HW0.out]
 clear HW0
 have F0:=zH (F0.out.below (Below.refl _ _).drew F0.out.lt)
 have F1:=zH (F1.out.below (Below.refl _ _).drew F1.out.lt)
 have FB:=zH (FB.out.drew)
 obtain ⟨x0,x1,x2,x3,x4,x5,x6,x7,x8,x9,x10,x11,x12,x13,x14,x15,x16⟩:=F0.out.c17
 refine wp_region_held_drew (S:=(fun w''=>hS w.heap.size h w''∧w''.cell? ⟨w.heap.size,12,none⟩=some (.slice da ds.length dc)∧w''.cell? ⟨w.heap.size,13,none⟩=some (I Z nx)∧w''.cell? ⟨w.heap.size,14,none⟩=some (.slice pa ps.length pc)∧w''.cell? ⟨w.heap.size,15,none⟩=some (I Z tk)∧w''.cell? ⟨w.heap.size,16,none⟩=some (.bool rc))) (by kernel_rfl) (by ((try dsimp only);(try simp only [hS]);first | ((repeat' apply And.intro) <;> assumption) | go_keep)) (fun hHeld=>?_)
 obtain ⟨v_1,hw1⟩:∃ v_1,v_1=W0.drew:=⟨_,rfl⟩
 rw [← hw1] at F0 F1 FB hHeld ⊢
 clear hw1
 obtain ⟨x0,x1,x2,x3,x4,x5,x6,x7,x8,x9,x10,x11,x12,x13,x14,x15,x16⟩:=F0.out.c17
 refine tkz 0 rfl ?_
 refine tkz 1 rfl ?_
 refine tkz 3 rfl ?_
 refine tkz 4 rfl ?_
 refine rd1 2 (fun K hK=>?_)
 go_simp
 refine (needIn_any h ds da dc nx ps pa pc tk rc sh _ HF.out s0 s1 (by omega) (by omega) hld hlp _ ((HD.out.below FB.out (Nat.le_refl _)).mono FB.out.size) ((HP.out.below FB.out (Nat.le_refl _)).mono FB.out.size)).mono ?_
 rintro e v_2 ⟨rfl,hb⟩
 have F0:=bB F0 hb
 have F1:=bB F1 hb
 have FB:=tB FB hb
 clear hb
 obtain ⟨x0,x1,x2,x3,x4,x5,x6,x7,x8,x9,x10,x11,x12,x13,x14,x15,x16⟩:=F0.out.c17
 try dsimp only
 refine kp hK (fun hHeld=>?_)
 clear hK K
 refine rd1 5 (fun K hK=>?_)
 go_simp
 refine (needIn_any h ds da dc nx ps pa pc tk rc sh _ HF.out s0 s1 (by omega) (by omega) hld hlp _ ((HD.out.below FB.out (Nat.le_refl _)).mono FB.out.size) ((HP.out.below FB.out (Nat.le_refl _)).mono FB.out.size)).mono ?_
 rintro e v_3 ⟨rfl,hb⟩
 have F0:=bB F0 hb
 have F1:=bB F1 hb
 have FB:=tB FB hb
 clear hb
 obtain ⟨x0,x1,x2,x3,x4,x5,x6,x7,x8,x9,x10,x11,x12,x13,x14,x15,x16⟩:=F0.out.c17
 try dsimp only
 refine kp hK (fun hHeld=>?_)
 clear hK K
 refine tkz 6 rfl ?_
 refine rd1 7 (fun K hK=>?_)
 obtain ⟨z0,z1,z2,z3,z4,z5⟩:=F1.out.c6
 have zf0:=F1.out.f 0 (Nat.le_of_ble_eq_true rfl)
 have zf1:=F1.out.f 1 (Nat.le_of_ble_eq_true rfl)
 have zf2:=F1.out.f 2 (Nat.le_of_ble_eq_true rfl)
 have zf3:=F1.out.f 3 (Nat.le_of_ble_eq_true rfl)
 have zf4:=F1.out.f 4 (Nat.le_of_ble_eq_true rfl)
 have zf5:=F1.out.f 5 (Nat.le_of_ble_eq_true rfl)
 go_simp
 obtain ⟨v_4,hw2⟩:∃ v_4,v_4=putB v_3 (w.heap.size + 1) 0 [I Z (need8 h ds ps rc sh 0).1,I Z (need8 h ds ps rc sh 0).2.1,I Z (need8 h ds ps rc sh 0).2.2,I Z (need8 h ds ps rc sh 1).1,I Z (need8 h ds ps rc sh 1).2.1,I Z (need8 h ds ps rc sh 1).2.2]:=⟨_,rfl⟩
 change K _ (putB v_3 (w.heap.size + 1) 0 [I Z (need8 h ds ps rc sh 0).1,I Z (need8 h ds ps rc sh 0).2.1,I Z (need8 h ds ps rc sh 0).2.2,I Z (need8 h ds ps rc sh 1).1,I Z (need8 h ds ps rc sh 1).2.1,I Z (need8 h ds ps rc sh 1).2.2])
 rw [← hw2]
 clear z0 zf0 z1 zf1 z2 zf2 z3 zf3 z4 zf4 z5 zf5
 have F0:Hid (Blk v_4 w.heap.size (gvs h (.slice da ds.length dc) nx (.slice pa ps.length pc) tk rc)):=by rw [hw2];exact Blk.putB_other (by omega) [I Z (need8 h ds ps rc sh 0).1,I Z (need8 h ds ps rc sh 0).2.1,I Z (need8 h ds ps rc sh 0).2.2,I Z (need8 h ds ps rc sh 1).1,I Z (need8 h ds ps rc sh 1).2.1,I Z (need8 h ds ps rc sh 1).2.2] 0 F0.out
 have F1:Hid (Blk v_4 (w.heap.size + 1) [I Z (need8 h ds ps rc sh 0).1,I Z (need8 h ds ps rc sh 0).2.1,I Z (need8 h ds ps rc sh 0).2.2,I Z (need8 h ds ps rc sh 1).1,I Z (need8 h ds ps rc sh 1).2.1,I Z (need8 h ds ps rc sh 1).2.2]):=by rw [hw2];exact F1.out.put [I Z (need8 h ds ps rc sh 0).1,I Z (need8 h ds ps rc sh 0).2.1,I Z (need8 h ds ps rc sh 0).2.2,I Z (need8 h ds ps rc sh 1).1,I Z (need8 h ds ps rc sh 1).2.1,I Z (need8 h ds ps rc sh 1).2.2] rfl
 have FB:Hid (Below w.heap.size w v_4):=by rw [hw2];exact below_putB FB.out (by omega) _ _
 clear hw2
 obtain ⟨x0,x1,x2,x3,x4,x5,x6,x7,x8,x9,x10,x11,x12,x13,x14,x15,x16⟩:=F0.out.c17
 refine kp hK (fun hHeld=>?_)
 clear hK K
 refine wpAnyH_done (by kernel_rfl) ?_ _
 go_wp2_with fail
 exact bodyPost_ret (v:=.agg #[I Z (need8 h ds ps rc sh 0).1,I Z (need8 h ds ps rc sh 0).2.1,I Z (need8 h ds ps rc sh 0).2.2,I Z (need8 h ds ps rc sh 1).1,I Z (need8 h ds ps rc sh 1).2.1,I Z (need8 h ds ps rc sh 1).2.2]) (F1.out.resA _ Tryz.results87 Tryz.underlying98 (by kernel_rfl) rfl) rfl ⟨rfl,FB.out⟩
theorem isNeeded_any(ak ai af bk bi bf:Int)(w:World) :
  Calls Tryz.prog 89 #[.agg #[I Z ak,I Z ai,I Z af,I Z bk,I Z bi,I Z bf]] w fun e w'=>e=.returned (.bool (decide (ak=0 ∨ bk=0)))∧Below w.heap.size w w':=by
 have FB:Hid (Below w.heap.size w (w.alloc (.cells #[I Z ak,I Z ai,I Z af,I Z bk,I Z bi,I Z bf] 98))):=(Below.refl _ _).alloc (Nat.le_refl _) _
 by_cases k1:ak=0
 ·have e1:(ak == 0)=true:=by simpa using k1
  have e2:decide (ak=0 ∨ bk=0)=true:=decide_eq_true (Or.inl k1)
  rw [e2]
  clear k1 e2
  go_enter Tryz.func89,Tryz.ntmps89
  go_wp2_with fail
  go_ret
  exact ⟨rfl,FB.out⟩
 ·have e1:(ak == 0)=false:=by simpa using k1
  by_cases k2:bk=0
  ·have e3:(bk == 0)=true:=by simpa using k2
   have e2:decide (ak=0 ∨ bk=0)=true:=decide_eq_true (Or.inr k2)
   rw [e2]
   clear k1 k2 e2
   go_enter Tryz.func89,Tryz.ntmps89
   go_wp2_with fail
   go_ret
   exact ⟨rfl,FB.out⟩
  ·have e3:(bk == 0)=false:=by simpa using k2
   have e2:decide (ak=0 ∨ bk=0)=false:=decide_eq_false (fun q=>q.elim k1 k2)
   rw [e2]
   clear k1 k2 e2
   go_enter Tryz.func89,Tryz.ntmps89
   go_wp2_with fail
   go_ret
   exact ⟨rfl,FB.out⟩
theorem leadOf_any(ak ai af bk bi bf:Int)(hn:ak=0 ∨ bk=0)(w:World) :
  Calls Tryz.prog 139 #[.agg #[I Z ak,I Z ai,I Z af,I Z bk,I Z bi,I Z bf]] w fun e w'=>e=.returned (I Z (lead8 (ak,ai,af) (bk,bi,bf)))∧Below w.heap.size w w':=by
 have F0:Hid (Blk (w.alloc (.cells #[I Z ak,I Z ai,I Z af,I Z bk,I Z bi,I Z bf] 98)) w.heap.size [I Z ak,I Z ai,I Z af,I Z bk,I Z bi,I Z bf]):=Blk.at_ w #[I Z ak,I Z ai,I Z af,I Z bk,I Z bi,I Z bf] _ _ rfl
 have FB:Hid (Below w.heap.size w (w.alloc (.cells #[I Z ak,I Z ai,I Z af,I Z bk,I Z bi,I Z bf] 98))):=(Below.refl _ _).alloc (Nat.le_refl _) _
 obtain ⟨W0,hW0⟩:∃ W0,W0=(w.alloc (.cells #[I Z ak,I Z ai,I Z af,I Z bk,I Z bi,I Z bf] 98)):=⟨_,rfl⟩
 rw [← hW0] at F0 FB
 have HW0:=zH hW0
 clear hW0
 go_enter Tryz.func139,Tryz.ntmps139
 go_upto_region 1 with fail
 rw [← HW0.out]
 clear HW0
 go_cut [3,4] (fun p q wx=>∃ la lb,p=.pointer (some ⟨la,0,none⟩)∧q=.pointer (some ⟨lb,0,none⟩)∧Blk wx la [I Z ak,I Z ai,I Z af]∧Blk wx lb [I Z bk,I Z bi,I Z bf]∧Below w.heap.size w wx)
 case first=>
  have F0:=zH (F0.out.below (Below.refl _ _).drew F0.out.lt)
  have FB:=zH (FB.out.drew)
  obtain ⟨x0,x1,x2,x3,x4,x5⟩:=F0.out.c6
  refine wp_region_held_drew (S:=(fun w''=>w''.cell? ⟨w.heap.size,0,none⟩=some (I Z ak)∧w''.cell? ⟨w.heap.size,1,none⟩=some (I Z ai)∧w''.cell? ⟨w.heap.size,2,none⟩=some (I Z af)∧w''.cell? ⟨w.heap.size,3,none⟩=some (I Z bk)∧w''.cell? ⟨w.heap.size,4,none⟩=some (I Z bi)∧w''.cell? ⟨w.heap.size,5,none⟩=some (I Z bf))) (by kernel_rfl) (by (try dsimp only);first | exact ⟨x0,x1,x2,x3,x4,x5⟩ | go_keep) (fun hHeld=>?_)
  obtain ⟨v_5,hw1⟩:∃ v_5,v_5=W0.drew:=⟨_,rfl⟩
  rw [← hw1] at F0 FB hHeld ⊢
  clear hw1
  obtain ⟨x0,x1,x2,x3,x4,x5⟩:=F0.out.c6
  refine tkz 0 rfl ?_
  refine tkz 1 rfl ?_
  refine tkz 2 rfl ?_
  refine tkz 3 rfl ?_
  refine wpAnyH_ready (rs:=[4,5]) (by kernel_rfl) (by simp) ?_
  refine (AllReadyH.cons rfl (fun K hK=>?_) (AllReadyH.cons rfl (fun K hK=>?_) AllReadyH.nil))
  ·go_simp
   obtain ⟨la,hbb⟩:∃ la,la=v_5.heap.size:=⟨_,rfl⟩
   obtain ⟨v_6,hw2⟩:∃ v_6,v_6=v_5.alloc (.cells #[I Z 0,I Z 0,I Z 0] 97):=⟨_,rfl⟩
   have nla_0:=F0.out.lt
   rw [← hbb] at nla_0
   have FA:Hid (Blk v_6 la [I Z 0,I Z 0,I Z 0]):=by rw [hw2];exact Blk.at_ v_5 #[I Z 0,I Z 0,I Z 0] _ _ hbb
   have F0:Hid (Blk v_6 w.heap.size [I Z ak,I Z ai,I Z af,I Z bk,I Z bi,I Z bf]):=by rw [hw2];exact F0.out.alloc _
   have FB:Hid (Below w.heap.size w v_6):=by rw [hw2];exact FB.out.alloc FB.out.size _
   rw [← hw2,← hbb]
   clear hbb hw2
   obtain ⟨x0,x1,x2,x3,x4,x5⟩:=F0.out.c6
   refine kp hK (fun hHeld=>?_)
   clear hK K
   refine rd1 5 (fun K hK=>?_)
   go_simp
   obtain ⟨lb,hbb⟩:∃ lb,lb=v_6.heap.size:=⟨_,rfl⟩
   obtain ⟨v_7,hw2⟩:∃ v_7,v_7=v_6.alloc (.cells #[I Z 0,I Z 0,I Z 0] 97):=⟨_,rfl⟩
   have nlb_0:=F0.out.lt
   rw [← hbb] at nlb_0
   have nlb_2:=FA.out.lt
   rw [← hbb] at nlb_2
   have FC:Hid (Blk v_7 lb [I Z 0,I Z 0,I Z 0]):=by rw [hw2];exact Blk.at_ v_6 #[I Z 0,I Z 0,I Z 0] _ _ hbb
   have F0:Hid (Blk v_7 w.heap.size [I Z ak,I Z ai,I Z af,I Z bk,I Z bi,I Z bf]):=by rw [hw2];exact F0.out.alloc _
   have FB:Hid (Below w.heap.size w v_7):=by rw [hw2];exact FB.out.alloc FB.out.size _
   have FA:Hid (Blk v_7 la [I Z 0,I Z 0,I Z 0]):=by rw [hw2];exact FA.out.alloc _
   rw [← hw2,← hbb]
   clear hbb hw2
   obtain ⟨x0,x1,x2,x3,x4,x5⟩:=F0.out.c6
   refine kp hK (fun hHeld=>?_)
   clear hK K
   refine rd1 6 (fun K hK=>?_)
   obtain ⟨z0,z1,z2⟩:=FA.out.c3
   have zf0:=FA.out.f 0 (Nat.le_of_ble_eq_true rfl)
   have zf1:=FA.out.f 1 (Nat.le_of_ble_eq_true rfl)
   have zf2:=FA.out.f 2 (Nat.le_of_ble_eq_true rfl)
   go_simp
   obtain ⟨v_8,hw2⟩:∃ v_8,v_8=putB v_7 la 0 [I Z ak,I Z ai,I Z af]:=⟨_,rfl⟩
   change K _ (putB v_7 la 0 [I Z ak,I Z ai,I Z af])
   rw [← hw2]
   clear z0 z1 z2 zf0 zf1 zf2
   have F0:Hid (Blk v_8 w.heap.size [I Z ak,I Z ai,I Z af,I Z bk,I Z bi,I Z bf]):=by rw [hw2];exact Blk.putB_other (by omega) [I Z ak,I Z ai,I Z af] 0 F0.out
   have FB:Hid (Below w.heap.size w v_8):=by rw [hw2];exact below_putB FB.out (by omega) _ _
   have FA:Hid (Blk v_8 la [I Z ak,I Z ai,I Z af]):=by rw [hw2];exact FA.out.put [I Z ak,I Z ai,I Z af] rfl
   have FC:Hid (Blk v_8 lb [I Z 0,I Z 0,I Z 0]):=by rw [hw2];exact Blk.putB_other (by omega) [I Z ak,I Z ai,I Z af] 0 FC.out
   clear hw2
   obtain ⟨x0,x1,x2,x3,x4,x5⟩:=F0.out.c6
   refine kp hK (fun hHeld=>?_)
   clear hK K
   refine rd1 7 (fun K hK=>?_)
   obtain ⟨z0,z1,z2⟩:=FC.out.c3
   have zf0:=FC.out.f 0 (Nat.le_of_ble_eq_true rfl)
   have zf1:=FC.out.f 1 (Nat.le_of_ble_eq_true rfl)
   have zf2:=FC.out.f 2 (Nat.le_of_ble_eq_true rfl)
   go_simp
   obtain ⟨v_9,hw2⟩:∃ v_9,v_9=putB v_8 lb 0 [I Z bk,I Z bi,I Z bf]:=⟨_,rfl⟩
   change K _ (putB v_8 lb 0 [I Z bk,I Z bi,I Z bf])
   rw [← hw2]
   clear z0 z1 z2 zf0 zf1 zf2
   have F0:Hid (Blk v_9 w.heap.size [I Z ak,I Z ai,I Z af,I Z bk,I Z bi,I Z bf]):=by rw [hw2];exact Blk.putB_other (by omega) [I Z bk,I Z bi,I Z bf] 0 F0.out
   have FB:Hid (Below w.heap.size w v_9):=by rw [hw2];exact below_putB FB.out (by omega) _ _
   have FA:Hid (Blk v_9 la [I Z ak,I Z ai,I Z af]):=by rw [hw2];exact Blk.putB_other (by omega) [I Z bk,I Z bi,I Z bf] 0 FA.out
   have FC:Hid (Blk v_9 lb [I Z bk,I Z bi,I Z bf]):=by rw [hw2];exact FC.out.put [I Z bk,I Z bi,I Z bf] rfl
   clear hw2
   obtain ⟨x0,x1,x2,x3,x4,x5⟩:=F0.out.c6
   refine kp hK (fun hHeld=>?_)
   clear hK K
   refine wpAnyH_done (by kernel_rfl) ?_ _
   go_wp2_with fail
   go_meet
   case rel=>exact ⟨la,lb,rfl,rfl,FA.out,FC.out,FB.out⟩
  ·go_simp
   obtain ⟨lb,hbb⟩:∃ lb,lb=v_5.heap.size:=⟨_,rfl⟩
   obtain ⟨v_10,hw2⟩:∃ v_10,v_10=v_5.alloc (.cells #[I Z 0,I Z 0,I Z 0] 97):=⟨_,rfl⟩
   have nlb_0:=F0.out.lt
   rw [← hbb] at nlb_0
   have FC:Hid (Blk v_10 lb [I Z 0,I Z 0,I Z 0]):=by rw [hw2];exact Blk.at_ v_5 #[I Z 0,I Z 0,I Z 0] _ _ hbb
   have F0:Hid (Blk v_10 w.heap.size [I Z ak,I Z ai,I Z af,I Z bk,I Z bi,I Z bf]):=by rw [hw2];exact F0.out.alloc _
   have FB:Hid (Below w.heap.size w v_10):=by rw [hw2];exact FB.out.alloc FB.out.size _
   rw [← hw2,← hbb]
   clear hbb hw2
   obtain ⟨x0,x1,x2,x3,x4,x5⟩:=F0.out.c6
   refine kp hK (fun hHeld=>?_)
   clear hK K
   refine rd1 4 (fun K hK=>?_)
   go_simp
   obtain ⟨la,hbb⟩:∃ la,la=v_10.heap.size:=⟨_,rfl⟩
   obtain ⟨v_11,hw2⟩:∃ v_11,v_11=v_10.alloc (.cells #[I Z 0,I Z 0,I Z 0] 97):=⟨_,rfl⟩
   have nla_0:=F0.out.lt
   rw [← hbb] at nla_0
   have nla_2:=FC.out.lt
   rw [← hbb] at nla_2
   have FA:Hid (Blk v_11 la [I Z 0,I Z 0,I Z 0]):=by rw [hw2];exact Blk.at_ v_10 #[I Z 0,I Z 0,I Z 0] _ _ hbb
   have F0:Hid (Blk v_11 w.heap.size [I Z ak,I Z ai,I Z af,I Z bk,I Z bi,I Z bf]):=by rw [hw2];exact F0.out.alloc _
   have FB:Hid (Below w.heap.size w v_11):=by rw [hw2];exact FB.out.alloc FB.out.size _
   have FC:Hid (Blk v_11 lb [I Z 0,I Z 0,I Z 0]):=by rw [hw2];exact FC.out.alloc _
   rw [← hw2,← hbb]
   clear hbb hw2
   obtain ⟨x0,x1,x2,x3,x4,x5⟩:=F0.out.c6
   refine kp hK (fun hHeld=>?_)
   clear hK K
   refine rd1 6 (fun K hK=>?_)
   obtain ⟨z0,z1,z2⟩:=FA.out.c3
   have zf0:=FA.out.f 0 (Nat.le_of_ble_eq_true rfl)
   have zf1:=FA.out.f 1 (Nat.le_of_ble_eq_true rfl)
   have zf2:=FA.out.f 2 (Nat.le_of_ble_eq_true rfl)
   go_simp
   obtain ⟨v_12,hw2⟩:∃ v_12,v_12=putB v_11 la 0 [I Z ak,I Z ai,I Z af]:=⟨_,rfl⟩
   change K _ (putB v_11 la 0 [I Z ak,I Z ai,I Z af])
   rw [← hw2]
   clear z0 z1 z2 zf0 zf1 zf2
   have F0:Hid (Blk v_12 w.heap.size [I Z ak,I Z ai,I Z af,I Z bk,I Z bi,I Z bf]):=by rw [hw2];exact Blk.putB_other (by omega) [I Z ak,I Z ai,I Z af] 0 F0.out
   have FB:Hid (Below w.heap.size w v_12):=by rw [hw2];exact below_putB FB.out (by omega) _ _
   have FC:Hid (Blk v_12 lb [I Z 0,I Z 0,I Z 0]):=by rw [hw2];exact Blk.putB_other (by omega) [I Z ak,I Z ai,I Z af] 0 FC.out
   have FA:Hid (Blk v_12 la [I Z ak,I Z ai,I Z af]):=by rw [hw2];exact FA.out.put [I Z ak,I Z ai,I Z af] rfl
   clear hw2
   obtain ⟨x0,x1,x2,x3,x4,x5⟩:=F0.out.c6
   refine kp hK (fun hHeld=>?_)
   clear hK K
   refine rd1 7 (fun K hK=>?_)
   obtain ⟨z0,z1,z2⟩:=FC.out.c3
   have zf0:=FC.out.f 0 (Nat.le_of_ble_eq_true rfl)
   have zf1:=FC.out.f 1 (Nat.le_of_ble_eq_true rfl)
   have zf2:=FC.out.f 2 (Nat.le_of_ble_eq_true rfl)
   go_simp
   obtain ⟨v_13,hw2⟩:∃ v_13,v_13=putB v_12 lb 0 [I Z bk,I Z bi,I Z bf]:=⟨_,rfl⟩
   change K _ (putB v_12 lb 0 [I Z bk,I Z bi,I Z bf])
   rw [← hw2]
   clear z0 z1 z2 zf0 zf1 zf2
   have F0:Hid (Blk v_13 w.heap.size [I Z ak,I Z ai,I Z af,I Z bk,I Z bi,I Z bf]):=by rw [hw2];exact Blk.putB_other (by omega) [I Z bk,I Z bi,I Z bf] 0 F0.out
   have FB:Hid (Below w.heap.size w v_13):=by rw [hw2];exact below_putB FB.out (by omega) _ _
   have FC:Hid (Blk v_13 lb [I Z bk,I Z bi,I Z bf]):=by rw [hw2];exact FC.out.put [I Z bk,I Z bi,I Z bf] rfl
   have FA:Hid (Blk v_13 la [I Z ak,I Z ai,I Z af]):=by rw [hw2];exact Blk.putB_other (by omega) [I Z bk,I Z bi,I Z bf] 0 FA.out
   clear hw2
   obtain ⟨x0,x1,x2,x3,x4,x5⟩:=F0.out.c6
   refine kp hK (fun hHeld=>?_)
   clear hK K
   refine wpAnyH_done (by kernel_rfl) ?_ _
   go_wp2_with fail
   go_meet
   case rel=>exact ⟨la,lb,rfl,rfl,FA.out,FC.out,FB.out⟩
 case rest=>
  obtain ⟨la,lb,rfl,rfl,h1,h2,h3⟩:=hcut
  have FB:=zH h3
  have a0:=h1.c 0 _ rfl
  have a1:=h1.c 1 _ rfl
  have b0:=h2.c 0 _ rfl
  have b1:=h2.c 1 _ rfl
  clear h1 h2 h3
  by_cases k1:ak=0 <;> by_cases k2:bk=0 <;> by_cases k3:ai < bi
  all_goals
   have q2:(bk != 0)=decide (bk ≠ 0):=by by_cases z:bk=0 <;> simp [z]
   have q3:(ak == 0)=decide (ak=0):=by by_cases z:ak=0 <;> simp [z]
   simp [k1] at q3
   simp [k2] at q2
   first
    | (exfalso;rcases hn with z | z;exact k1 z;exact k2 z)
    | (go_wp2_with fail;go_ret;exact ⟨ret_int (by unfold lead8;simp [k1,k2,k3]),FB.out⟩)
end Go.Proofs.YteimojoicfjdjaaGreat
