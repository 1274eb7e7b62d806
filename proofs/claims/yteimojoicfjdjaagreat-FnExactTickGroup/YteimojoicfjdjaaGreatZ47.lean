/- Parts of the proof: GrpF. -/
import Derived.Test.YteimojoicfjdjaaGreatZ27
import Derived.Test.YteimojoicfjdjaaGreatZ26
namespace Go.Proofs.YteimojoicfjdjaaGreat
set_option maxRecDepth 20000
set_option maxHeartbeats 32000000
open Value renaming int → I
open IntKind renaming i64 → Z
open Go.RowKit Pl
set_option linter.unusedSimpArgs false
set_option linter.unusedVariables false
theorem heldGroup_any(B:Nat)(h:Hs)(dv:Value)(nx:Int)(pv:Value)(tk:Int)(rc:Bool)(n m:Nat)(k:Int)(k1:0≤k)(k2:k≤100)(hld:n≤1048576)(hlp:m≤1048576)(w:World)(hd:OwnD w B dv (markLD k n))(hp:Own w B pv (markL (k + 13 * n) m)) :
  Calls Tryz.prog 31 #[.agg #[I Z h.fl,I Z h.gp,I Z h.ln,I Z h.rf,I Z h.sp,I Z h.pu,I Z h.br,I Z h.dr,I Z h.lv,I Z h.dO,I Z h.ld,I Z h.qu,dv,I Z nx,pv,I Z tk,.bool rc],I Z k] w fun e w'=>e=.returned (I Z (k + 13 * n + 7 * m))∧Below w.heap.size w w':=by
 have F0:Hid (Blk (w.alloc (.cells #[I Z h.fl,I Z h.gp,I Z h.ln,I Z h.rf,I Z h.sp,I Z h.pu,I Z h.br,I Z h.dr,I Z h.lv,I Z h.dO,I Z h.ld,I Z h.qu,dv,I Z nx,pv,I Z tk,.bool rc] 37)) w.heap.size (gvs h dv nx pv tk rc)):=Blk.at_ w #[I Z h.fl,I Z h.gp,I Z h.ln,I Z h.rf,I Z h.sp,I Z h.pu,I Z h.br,I Z h.dr,I Z h.lv,I Z h.dO,I Z h.ld,I Z h.qu,dv,I Z nx,pv,I Z tk,.bool rc] _ _ rfl
 have HD:Hid (OwnD (w.alloc (.cells #[I Z h.fl,I Z h.gp,I Z h.ln,I Z h.rf,I Z h.sp,I Z h.pu,I Z h.br,I Z h.dr,I Z h.lv,I Z h.dO,I Z h.ld,I Z h.qu,dv,I Z nx,pv,I Z tk,.bool rc] 37)) B dv (markLD k n)):=hd.alloc _
 have HP:Hid (Own (w.alloc (.cells #[I Z h.fl,I Z h.gp,I Z h.ln,I Z h.rf,I Z h.sp,I Z h.pu,I Z h.br,I Z h.dr,I Z h.lv,I Z h.dO,I Z h.ld,I Z h.qu,dv,I Z nx,pv,I Z tk,.bool rc] 37)) B pv (markL (k + 13 * n) m)):=hp.alloc _
 have FB:Hid (Below w.heap.size w (w.alloc (.cells #[I Z h.fl,I Z h.gp,I Z h.ln,I Z h.rf,I Z h.sp,I Z h.pu,I Z h.br,I Z h.dr,I Z h.lv,I Z h.dO,I Z h.ld,I Z h.qu,dv,I Z nx,pv,I Z tk,.bool rc] 37))):=(Below.refl _ _).alloc (Nat.le_refl _) _
 have q1:¬ (k + 13 * (n:Int) < 0):=by omega
 have q2:¬ (k + 13 * (n:Int) + 7 * (m:Int) < 0):=by omega
 obtain ⟨W0,hW0⟩:∃ W0,W0=(w.alloc (.cells #[I Z h.fl,I Z h.gp,I Z h.ln,I Z h.rf,I Z h.sp,I Z h.pu,I Z h.br,I Z h.dr,I Z h.lv,I Z h.dO,I Z h.ld,I Z h.qu,dv,I Z nx,pv,I Z tk,.bool rc] 37)):=⟨_,rfl⟩
 rw [← hW0] at F0 HD HP FB
 have HW0:=zH hW0
 clear hW0 hd hp
 go_enter Tryz.func31,Tryz.ntmps31
 go_upto_region 1 with fail
 rw [← HW0.out]
 have x12:=F0.out.c 12 _ rfl
 have x13:=F0.out.c 13 _ rfl
 have x14:=F0.out.c 14 _ rfl
 go_wp2_with (first | (go_at_call 51;refine (heldDeckS_any B dv n k k1 (by omega) hld _ HD.out).mono ?_;rintro e w' ⟨rfl,hw⟩;obtain rfl:=hw.symm;clear hw) | (go_at_call 52;refine (heldLedger_anyW B nx pv m (k + 13 * n) (by omega) (by omega) hlp _ HP.out).mono ?_;rintro e w2 ⟨rfl,hb⟩;have FB:=tB FB hb;clear hb))
 go_ret
 exact ⟨rfl,FB.out⟩
theorem eqGroupResult_same(kc id:Int)(h:Hs)(ds:List Dk)(da da':Option Addr)(dc dc':Nat)(nx:Int)(ps:List Pe)(pa pa':Option Addr)(pc pc':Nat)(tk:Int)(rc:Bool)(hld:ds.length≤1048576)(hlp:ps.length≤1048576)(w:World)
  (hD:DIn w w.heap.size da ds) (hD':DIn w w.heap.size da' ds) (hP:PIn w w.heap.size pa ps) (hP':PIn w w.heap.size pa' ps) :
  Calls Tryz.prog 8 #[.agg #[I Z kc,I Z id,I Z h.fl,I Z h.gp,I Z h.ln,I Z h.rf,I Z h.sp,I Z h.pu,I Z h.br,I Z h.dr,I Z h.lv,I Z h.dO,I Z h.ld,I Z h.qu,.slice da ds.length dc,I Z nx,.slice pa ps.length pc,I Z tk,.bool rc],.agg #[I Z kc,I Z id,I Z h.fl,I Z h.gp,I Z h.ln,I Z h.rf,I Z h.sp,I Z h.pu,I Z h.br,I Z h.dr,I Z h.lv,I Z h.dO,I Z h.ld,I Z h.qu,.slice da' ds.length dc',I Z nx,.slice pa' ps.length pc',I Z tk,.bool rc]] w fun e w'=>e=.returned (.bool true)∧Below w.heap.size w w':=by
 have HD:=zH hD
 have HE:Hid (DIn w w.heap.size da' ds):=hD'
 have HP:=zH hP
 have HQ:Hid (PIn w w.heap.size pa' ps):=hP'
 clear hD hD' hP hP'
 have F0:Hid (Blk ((w.alloc (.cells #[I Z kc,I Z id,I Z h.fl,I Z h.gp,I Z h.ln,I Z h.rf,I Z h.sp,I Z h.pu,I Z h.br,I Z h.dr,I Z h.lv,I Z h.dO,I Z h.ld,I Z h.qu,.slice da ds.length dc,I Z nx,.slice pa ps.length pc,I Z tk,.bool rc] 39)).alloc (.cells #[I Z kc,I Z id,I Z h.fl,I Z h.gp,I Z h.ln,I Z h.rf,I Z h.sp,I Z h.pu,I Z h.br,I Z h.dr,I Z h.lv,I Z h.dO,I Z h.ld,I Z h.qu,.slice da' ds.length dc',I Z nx,.slice pa' ps.length pc',I Z tk,.bool rc] 39)) w.heap.size [I Z kc,I Z id,I Z h.fl,I Z h.gp,I Z h.ln,I Z h.rf,I Z h.sp,I Z h.pu,I Z h.br,I Z h.dr,I Z h.lv,I Z h.dO,I Z h.ld,I Z h.qu,.slice da ds.length dc,I Z nx,.slice pa ps.length pc,I Z tk,.bool rc]):=(Blk.at_ w #[I Z kc,I Z id,I Z h.fl,I Z h.gp,I Z h.ln,I Z h.rf,I Z h.sp,I Z h.pu,I Z h.br,I Z h.dr,I Z h.lv,I Z h.dO,I Z h.ld,I Z h.qu,.slice da ds.length dc,I Z nx,.slice pa ps.length pc,I Z tk,.bool rc] _ _ rfl).alloc _
 have F1:Hid (Blk ((w.alloc (.cells #[I Z kc,I Z id,I Z h.fl,I Z h.gp,I Z h.ln,I Z h.rf,I Z h.sp,I Z h.pu,I Z h.br,I Z h.dr,I Z h.lv,I Z h.dO,I Z h.ld,I Z h.qu,.slice da ds.length dc,I Z nx,.slice pa ps.length pc,I Z tk,.bool rc] 39)).alloc (.cells #[I Z kc,I Z id,I Z h.fl,I Z h.gp,I Z h.ln,I Z h.rf,I Z h.sp,I Z h.pu,I Z h.br,I Z h.dr,I Z h.lv,I Z h.dO,I Z h.ld,I Z h.qu,.slice da' ds.length dc',I Z nx,.slice pa' ps.length pc',I Z tk,.bool rc] 39)) (w.heap.size + 1) [I Z kc,I Z id,I Z h.fl,I Z h.gp,I Z h.ln,I Z h.rf,I Z h.sp,I Z h.pu,I Z h.br,I Z h.dr,I Z h.lv,I Z h.dO,I Z h.ld,I Z h.qu,.slice da' ds.length dc',I Z nx,.slice pa' ps.length pc',I Z tk,.bool rc]):=Blk.at_ _ #[I Z kc,I Z id,I Z h.fl,I Z h.gp,I Z h.ln,I Z h.rf,I Z h.sp,I Z h.pu,I Z h.br,I Z h.dr,I Z h.lv,I Z h.dO,I Z h.ld,I Z h.qu,.slice da' ds.length dc',I Z nx,.slice pa' ps.length pc',I Z tk,.bool rc] _ _ (by simp)
 have FB:Hid (Below w.heap.size w ((w.alloc (.cells #[I Z kc,I Z id,I Z h.fl,I Z h.gp,I Z h.ln,I Z h.rf,I Z h.sp,I Z h.pu,I Z h.br,I Z h.dr,I Z h.lv,I Z h.dO,I Z h.ld,I Z h.qu,.slice da ds.length dc,I Z nx,.slice pa ps.length pc,I Z tk,.bool rc] 39)).alloc (.cells #[I Z kc,I Z id,I Z h.fl,I Z h.gp,I Z h.ln,I Z h.rf,I Z h.sp,I Z h.pu,I Z h.br,I Z h.dr,I Z h.lv,I Z h.dO,I Z h.ld,I Z h.qu,.slice da' ds.length dc',I Z nx,.slice pa' ps.length pc',I Z tk,.bool rc] 39))):=((Below.refl _ _).alloc (Nat.le_refl _) _).alloc (by simp) _
 obtain ⟨W0,hW0⟩:∃ W0,W0=((w.alloc (.cells #[I Z kc,I Z id,I Z h.fl,I Z h.gp,I Z h.ln,I Z h.rf,I Z h.sp,I Z h.pu,I Z h.br,I Z h.dr,I Z h.lv,I Z h.dO,I Z h.ld,I Z h.qu,.slice da ds.length dc,I Z nx,.slice pa ps.length pc,I Z tk,.bool rc] 39)).alloc (.cells #[I Z kc,I Z id,I Z h.fl,I Z h.gp,I Z h.ln,I Z h.rf,I Z h.sp,I Z h.pu,I Z h.br,I Z h.dr,I Z h.lv,I Z h.dO,I Z h.ld,I Z h.qu,.slice da' ds.length dc',I Z nx,.slice pa' ps.length pc',I Z tk,.bool rc] 39)):=⟨_,rfl⟩
 rw [← hW0] at F0 F1 FB
 have HW0:=zH hW0
 clear hW0
 go_enter Tryz.func8,Tryz.ntmps8
 go_upto_region 1 with fail
 rw [← HW0.out]
 obtain ⟨x0,x1,x2,x3,x4,x5,x6,x7,x8,x9,x10,x11,x12,x13,x14,x15,x16,x17,x18⟩:=F0.out.c19
 obtain ⟨y0,y1,y2,y3,y4,y5,y6,y7,y8,y9,y10,y11,y12,y13,y14,y15,y16,y17,y18⟩:=F1.out.c19
 go_wp2_with (go_at_call 9;refine (eqGroup_same h ds da da' dc dc' nx ps pa pa' pc pc' tk rc hld hlp _ ((HD.out.below FB.out (Nat.le_refl _)).mono FB.out.size) ((HE.out.below FB.out (Nat.le_refl _)).mono FB.out.size) ((HP.out.below FB.out (Nat.le_refl _)).mono FB.out.size) ((HQ.out.below FB.out (Nat.le_refl _)).mono FB.out.size)).mono ?_;rintro e w1 ⟨rfl,hb⟩;have FB:=tB FB hb;clear hb)
 go_ret
 exact ⟨rfl,FB.out⟩
theorem markGroupResult_any(B:Nat)(kc id:Int)(h:Hs)(dv:Value)(nx:Int)(pv:Value)(tk:Int)(rc:Bool)(ds:List Dk)(ps:List Pe)(k:Int)(k1:0≤k)(k2:k≤100)(hld:ds.length≤1048576)(hlp:ps.length≤1048576)(w:World)(hd:OwnD w B dv ds)(hp:Own w B pv ps)(ne:∀ j,dv.ownBlock=some j→pv.ownBlock ≠ some j) :
  Calls Tryz.prog 11 #[.agg #[I Z kc,I Z id,I Z h.fl,I Z h.gp,I Z h.ln,I Z h.rf,I Z h.sp,I Z h.pu,I Z h.br,I Z h.dr,I Z h.lv,I Z h.dO,I Z h.ld,I Z h.qu,dv,I Z nx,pv,I Z tk,.bool rc],I Z k] w fun e w'=>e=.returned (I Z (k + 13 * ds.length + 7 * ps.length))∧OwnD w' B dv (markLD k ds.length)∧Own w' B pv (markL (k + 13 * ds.length) ps.length)∧Turn2 w w' dv pv:=by
 have F0:Hid (Blk (w.alloc (.cells #[I Z kc,I Z id,I Z h.fl,I Z h.gp,I Z h.ln,I Z h.rf,I Z h.sp,I Z h.pu,I Z h.br,I Z h.dr,I Z h.lv,I Z h.dO,I Z h.ld,I Z h.qu,dv,I Z nx,pv,I Z tk,.bool rc] 39)) w.heap.size [I Z kc,I Z id,I Z h.fl,I Z h.gp,I Z h.ln,I Z h.rf,I Z h.sp,I Z h.pu,I Z h.br,I Z h.dr,I Z h.lv,I Z h.dO,I Z h.ld,I Z h.qu,dv,I Z nx,pv,I Z tk,.bool rc]):=Blk.at_ w #[I Z kc,I Z id,I Z h.fl,I Z h.gp,I Z h.ln,I Z h.rf,I Z h.sp,I Z h.pu,I Z h.br,I Z h.dr,I Z h.lv,I Z h.dO,I Z h.ld,I Z h.qu,dv,I Z nx,pv,I Z tk,.bool rc] _ _ rfl
 have HD:Hid (OwnD (w.alloc (.cells #[I Z kc,I Z id,I Z h.fl,I Z h.gp,I Z h.ln,I Z h.rf,I Z h.sp,I Z h.pu,I Z h.br,I Z h.dr,I Z h.lv,I Z h.dO,I Z h.ld,I Z h.qu,dv,I Z nx,pv,I Z tk,.bool rc] 39)) B dv ds):=hd.alloc _
 have HP:Hid (Own (w.alloc (.cells #[I Z kc,I Z id,I Z h.fl,I Z h.gp,I Z h.ln,I Z h.rf,I Z h.sp,I Z h.pu,I Z h.br,I Z h.dr,I Z h.lv,I Z h.dO,I Z h.ld,I Z h.qu,dv,I Z nx,pv,I Z tk,.bool rc] 39)) B pv ps):=hp.alloc _
 have HT:Hid (Turn2 w (w.alloc (.cells #[I Z kc,I Z id,I Z h.fl,I Z h.gp,I Z h.ln,I Z h.rf,I Z h.sp,I Z h.pu,I Z h.br,I Z h.dr,I Z h.lv,I Z h.dO,I Z h.ld,I Z h.qu,dv,I Z nx,pv,I Z tk,.bool rc] 39)) dv pv):=Turn2.alloc w _ _ _
 obtain ⟨W0,hW0⟩:∃ W0,W0=(w.alloc (.cells #[I Z kc,I Z id,I Z h.fl,I Z h.gp,I Z h.ln,I Z h.rf,I Z h.sp,I Z h.pu,I Z h.br,I Z h.dr,I Z h.lv,I Z h.dO,I Z h.ld,I Z h.qu,dv,I Z nx,pv,I Z tk,.bool rc] 39)):=⟨_,rfl⟩
 rw [← hW0] at F0 HD HP HT
 have HW0:=zH hW0
 have NE:=zH ne
 clear hW0 hd hp ne
 go_enter Tryz.func11,Tryz.ntmps11
 go_upto_region 1 with fail
 rw [← HW0.out]
 obtain ⟨x0,x1,x2,x3,x4,x5,x6,x7,x8,x9,x10,x11,x12,x13,x14,x15,x16,x17,x18⟩:=F0.out.c19
 go_wp2_with (go_at_call 10;refine (markGroup_any B h dv nx pv tk rc ds ps k k1 k2 hld hlp _ HD.out HP.out NE.out).mono ?_;rintro e w1 ⟨rfl,h1,h2,h3⟩;have HD:=zH h1;have HP:=zH h2;have HT:Hid (Turn2 w w1 dv pv):=HT.out.trans h3;clear h1 h2 h3)
 go_ret
 exact ⟨rfl,HD.out,HP.out,HT.out⟩
theorem heldGroupResult_any(B:Nat)(kc id:Int)(h:Hs)(dv:Value)(nx:Int)(pv:Value)(tk:Int)(rc:Bool)(n m:Nat)(k:Int)(k1:0≤k)(k2:k≤100)(hld:n≤1048576)(hlp:m≤1048576)(w:World)(hd:OwnD w B dv (markLD k n))(hp:Own w B pv (markL (k + 13 * n) m)) :
  Calls Tryz.prog 12 #[.agg #[I Z kc,I Z id,I Z h.fl,I Z h.gp,I Z h.ln,I Z h.rf,I Z h.sp,I Z h.pu,I Z h.br,I Z h.dr,I Z h.lv,I Z h.dO,I Z h.ld,I Z h.qu,dv,I Z nx,pv,I Z tk,.bool rc],I Z k] w fun e w'=>e=.returned (I Z (k + 13 * n + 7 * m))∧Below w.heap.size w w':=by
 have F0:Hid (Blk (w.alloc (.cells #[I Z kc,I Z id,I Z h.fl,I Z h.gp,I Z h.ln,I Z h.rf,I Z h.sp,I Z h.pu,I Z h.br,I Z h.dr,I Z h.lv,I Z h.dO,I Z h.ld,I Z h.qu,dv,I Z nx,pv,I Z tk,.bool rc] 39)) w.heap.size [I Z kc,I Z id,I Z h.fl,I Z h.gp,I Z h.ln,I Z h.rf,I Z h.sp,I Z h.pu,I Z h.br,I Z h.dr,I Z h.lv,I Z h.dO,I Z h.ld,I Z h.qu,dv,I Z nx,pv,I Z tk,.bool rc]):=Blk.at_ w #[I Z kc,I Z id,I Z h.fl,I Z h.gp,I Z h.ln,I Z h.rf,I Z h.sp,I Z h.pu,I Z h.br,I Z h.dr,I Z h.lv,I Z h.dO,I Z h.ld,I Z h.qu,dv,I Z nx,pv,I Z tk,.bool rc] _ _ rfl
 have HD:Hid (OwnD (w.alloc (.cells #[I Z kc,I Z id,I Z h.fl,I Z h.gp,I Z h.ln,I Z h.rf,I Z h.sp,I Z h.pu,I Z h.br,I Z h.dr,I Z h.lv,I Z h.dO,I Z h.ld,I Z h.qu,dv,I Z nx,pv,I Z tk,.bool rc] 39)) B dv (markLD k n)):=hd.alloc _
 have HP:Hid (Own (w.alloc (.cells #[I Z kc,I Z id,I Z h.fl,I Z h.gp,I Z h.ln,I Z h.rf,I Z h.sp,I Z h.pu,I Z h.br,I Z h.dr,I Z h.lv,I Z h.dO,I Z h.ld,I Z h.qu,dv,I Z nx,pv,I Z tk,.bool rc] 39)) B pv (markL (k + 13 * n) m)):=hp.alloc _
 have FB:Hid (Below w.heap.size w (w.alloc (.cells #[I Z kc,I Z id,I Z h.fl,I Z h.gp,I Z h.ln,I Z h.rf,I Z h.sp,I Z h.pu,I Z h.br,I Z h.dr,I Z h.lv,I Z h.dO,I Z h.ld,I Z h.qu,dv,I Z nx,pv,I Z tk,.bool rc] 39))):=(Below.refl _ _).alloc (Nat.le_refl _) _
 have q2:¬ (k + 13 * (n:Int) + 7 * (m:Int) < 0):=by omega
 obtain ⟨W0,hW0⟩:∃ W0,W0=(w.alloc (.cells #[I Z kc,I Z id,I Z h.fl,I Z h.gp,I Z h.ln,I Z h.rf,I Z h.sp,I Z h.pu,I Z h.br,I Z h.dr,I Z h.lv,I Z h.dO,I Z h.ld,I Z h.qu,dv,I Z nx,pv,I Z tk,.bool rc] 39)):=⟨_,rfl⟩
 rw [← hW0] at F0 HD HP FB
 have HW0:=zH hW0
 clear hW0 hd hp
 go_enter Tryz.func12,Tryz.ntmps12
 go_upto_region 1 with fail
 rw [← HW0.out]
 obtain ⟨x0,x1,x2,x3,x4,x5,x6,x7,x8,x9,x10,x11,x12,x13,x14,x15,x16,x17,x18⟩:=F0.out.c19
 go_wp2_with (go_at_call 31;refine (heldGroup_any B h dv nx pv tk rc n m k k1 k2 hld hlp _ HD.out HP.out).mono ?_;rintro e w1 ⟨rfl,hb⟩;have FB:=tB FB hb;clear hb)
 go_ret
 exact ⟨rfl,FB.out⟩
end Go.Proofs.YteimojoicfjdjaaGreat
