/- Parts of the proof: GrpC, GrpD. -/
import Derived.Test.YteimojoicfjdjaaGreatZ16
import Derived.Test.YteimojoicfjdjaaGreatZ17
import Derived.Deep.RegionHeld3
namespace Go.Proofs.YteimojoicfjdjaaGreat
set_option maxRecDepth 20000
set_option maxHeartbeats 16000000
open Value renaming int → I
open IntKind renaming i64 → Z
open Go.RowKit Pl
set_option linter.unusedSimpArgs false
set_option linter.unusedVariables false
theorem szDeckS_any(a:Option Addr)(len cap:Nat)(left:Int)(h1:0≤left)(h2:left≤1048576)(hl:len≤maxLen)(w:World) :
  Calls Tryz.prog 13 #[.slice a len cap,I Z left] w fun e w'=>e=.returned (I Z (if left < len then -1 else left - len))∧w'=w:=by
 unfold maxLen at hl
 have ew:IntKind.i64.wrap (left - len)=left - len:=IntWalk.i64_in _ (by omega)
 by_cases c:left < len
 ·rw [if_pos c]
  have d:decide (left - len < 0)=true:=decide_eq_true (by omega)
  go_enter Tryz.func13,Tryz.ntmps13
  go_wp2
  go_ret
  exact ⟨rfl,rfl⟩
 ·rw [if_neg c]
  have d:decide (left - len < 0)=false:=decide_eq_false (by omega)
  go_enter Tryz.func13,Tryz.ntmps13
  go_wp2
  go_ret
  exact ⟨rfl,rfl⟩
theorem toDeck_any(d:Dk)(w:World) :
  Calls Tryz.prog 40 #[.agg #[I Z d.sh.lo.pos,I Z d.sh.lo.vel,I Z d.sh.lo.door,I Z d.sh.up.pos,I Z d.sh.up.vel,I Z d.sh.up.door,I Z d.sp.l.lo,I Z d.sp.l.hi,I Z d.sp.u.lo,I Z d.sp.u.hi,I Z d.pl,I Z d.pu,.bool d.hd]] w fun e w'=>e=.returned (.agg #[I Z d.sh.lo.pos,I Z d.sh.lo.vel,I Z d.sh.lo.door,I Z d.sh.up.pos,I Z d.sh.up.vel,I Z d.sh.up.door,I Z d.sp.l.lo,I Z d.sp.l.hi,I Z d.sp.u.lo,I Z d.sp.u.hi,I Z d.pl,I Z d.pu,.bool d.hd])∧Below w.heap.size w w':=by
 have F0:Hid (Blk (((w.alloc (.cells #[I Z d.sh.lo.pos,I Z d.sh.lo.vel,I Z d.sh.lo.door,I Z d.sh.up.pos,I Z d.sh.up.vel,I Z d.sh.up.door,I Z d.sp.l.lo,I Z d.sp.l.hi,I Z d.sp.u.lo,I Z d.sp.u.hi,I Z d.pl,I Z d.pu,.bool d.hd] 90)).alloc (.cells #[I Z 0,I Z 0,I Z 0,I Z 0,I Z 0,I Z 0,I Z 0,I Z 0,I Z 0,I Z 0,I Z 0,I Z 0,.bool false] 73)).alloc (.cells #[I Z 0,I Z 0,I Z 0,I Z 0,I Z 0,I Z 0,I Z 0,I Z 0,I Z 0,I Z 0,I Z 0,I Z 0,.bool false] 73)) w.heap.size (cellsD d)):=((Blk.at_ w #[I Z d.sh.lo.pos,I Z d.sh.lo.vel,I Z d.sh.lo.door,I Z d.sh.up.pos,I Z d.sh.up.vel,I Z d.sh.up.door,I Z d.sp.l.lo,I Z d.sp.l.hi,I Z d.sp.u.lo,I Z d.sp.u.hi,I Z d.pl,I Z d.pu,.bool d.hd] _ _ rfl).alloc _).alloc _
 have F1:Hid (Blk (((w.alloc (.cells #[I Z d.sh.lo.pos,I Z d.sh.lo.vel,I Z d.sh.lo.door,I Z d.sh.up.pos,I Z d.sh.up.vel,I Z d.sh.up.door,I Z d.sp.l.lo,I Z d.sp.l.hi,I Z d.sp.u.lo,I Z d.sp.u.hi,I Z d.pl,I Z d.pu,.bool d.hd] 90)).alloc (.cells #[I Z 0,I Z 0,I Z 0,I Z 0,I Z 0,I Z 0,I Z 0,I Z 0,I Z 0,I Z 0,I Z 0,I Z 0,.bool false] 73)).alloc (.cells #[I Z 0,I Z 0,I Z 0,I Z 0,I Z 0,I Z 0,I Z 0,I Z 0,I Z 0,I Z 0,I Z 0,I Z 0,.bool false] 73)) (w.heap.size + 1) (cellsD zeroD)):=(Blk.at_ _ #[I Z 0,I Z 0,I Z 0,I Z 0,I Z 0,I Z 0,I Z 0,I Z 0,I Z 0,I Z 0,I Z 0,I Z 0,.bool false] _ _ (by simp)).alloc _
 have F2:Hid (Blk (((w.alloc (.cells #[I Z d.sh.lo.pos,I Z d.sh.lo.vel,I Z d.sh.lo.door,I Z d.sh.up.pos,I Z d.sh.up.vel,I Z d.sh.up.door,I Z d.sp.l.lo,I Z d.sp.l.hi,I Z d.sp.u.lo,I Z d.sp.u.hi,I Z d.pl,I Z d.pu,.bool d.hd] 90)).alloc (.cells #[I Z 0,I Z 0,I Z 0,I Z 0,I Z 0,I Z 0,I Z 0,I Z 0,I Z 0,I Z 0,I Z 0,I Z 0,.bool false] 73)).alloc (.cells #[I Z 0,I Z 0,I Z 0,I Z 0,I Z 0,I Z 0,I Z 0,I Z 0,I Z 0,I Z 0,I Z 0,I Z 0,.bool false] 73)) (w.heap.size + 2) (cellsD zeroD)):=Blk.at_ _ #[I Z 0,I Z 0,I Z 0,I Z 0,I Z 0,I Z 0,I Z 0,I Z 0,I Z 0,I Z 0,I Z 0,I Z 0,.bool false] _ _ (by simp)
 have FB:Hid (Below w.heap.size w (((w.alloc (.cells #[I Z d.sh.lo.pos,I Z d.sh.lo.vel,I Z d.sh.lo.door,I Z d.sh.up.pos,I Z d.sh.up.vel,I Z d.sh.up.door,I Z d.sp.l.lo,I Z d.sp.l.hi,I Z d.sp.u.lo,I Z d.sp.u.hi,I Z d.pl,I Z d.pu,.bool d.hd] 90)).alloc (.cells #[I Z 0,I Z 0,I Z 0,I Z 0,I Z 0,I Z 0,I Z 0,I Z 0,I Z 0,I Z 0,I Z 0,I Z 0,.bool false] 73)).alloc (.cells #[I Z 0,I Z 0,I Z 0,I Z 0,I Z 0,I Z 0,I Z 0,I Z 0,I Z 0,I Z 0,I Z 0,I Z 0,.bool false] 73))):=(((Below.refl _ _).alloc (Nat.le_refl _) _).alloc (by simp) _).alloc (by simp;omega) _
 obtain ⟨W0,hW0⟩:∃ W0,W0=(((w.alloc (.cells #[I Z d.sh.lo.pos,I Z d.sh.lo.vel,I Z d.sh.lo.door,I Z d.sh.up.pos,I Z d.sh.up.vel,I Z d.sh.up.door,I Z d.sp.l.lo,I Z d.sp.l.hi,I Z d.sp.u.lo,I Z d.sp.u.hi,I Z d.pl,I Z d.pu,.bool d.hd] 90)).alloc (.cells #[I Z 0,I Z 0,I Z 0,I Z 0,I Z 0,I Z 0,I Z 0,I Z 0,I Z 0,I Z 0,I Z 0,I Z 0,.bool false] 73)).alloc (.cells #[I Z 0,I Z 0,I Z 0,I Z 0,I Z 0,I Z 0,I Z 0,I Z 0,I Z 0,I Z 0,I Z 0,I Z 0,.bool false] 73)):=⟨_,rfl⟩
 rw [← hW0] at F0 F1 F2 FB
 have HW0:=zH hW0
 clear hW0
 go_enter Tryz.func40,Tryz.ntmps40
 go_upto_region 2 with fail
 rw [← HW0.out]
 clear HW0
 obtain ⟨x0,x1,x2,x3,x4,x5,x6,x7,x8,x9,x10,x11,x12⟩:=F0.out.c13
 obtain ⟨y0,y1,y2,y3,y4,y5,y6,y7,y8,y9,y10,y11,y12⟩:=F2.out.c13
 have yf0:=F2.out.f 0 (Nat.le_of_ble_eq_true rfl)
 have yf1:=F2.out.f 1 (Nat.le_of_ble_eq_true rfl)
 have yf2:=F2.out.f 2 (Nat.le_of_ble_eq_true rfl)
 have yf3:=F2.out.f 3 (Nat.le_of_ble_eq_true rfl)
 have yf4:=F2.out.f 4 (Nat.le_of_ble_eq_true rfl)
 have yf5:=F2.out.f 5 (Nat.le_of_ble_eq_true rfl)
 have yf6:=F2.out.f 6 (Nat.le_of_ble_eq_true rfl)
 have yf7:=F2.out.f 7 (Nat.le_of_ble_eq_true rfl)
 have yf8:=F2.out.f 8 (Nat.le_of_ble_eq_true rfl)
 have yf9:=F2.out.f 9 (Nat.le_of_ble_eq_true rfl)
 have yf10:=F2.out.f 10 (Nat.le_of_ble_eq_true rfl)
 have yf11:=F2.out.f 11 (Nat.le_of_ble_eq_true rfl)
 have yf12:=F2.out.f 12 (Nat.le_of_ble_eq_true rfl)
 go_upto_region 3 with (go_at_call 73;refine (toShaft_any d.sh _).mono ?_;rintro e w1 ⟨rfl,hb⟩;have F0:=bB F0 hb;have F1:=bB F1 hb;have F2:=bB F2 hb;have FB:=tB FB hb;clear hb;obtain ⟨y0,y1,y2,y3,y4,y5,y6,y7,y8,y9,y10,y11,y12⟩:=F2.out.c13;have yf0:=F2.out.f 0 (Nat.le_of_ble_eq_true rfl);have yf1:=F2.out.f 1 (Nat.le_of_ble_eq_true rfl);have yf2:=F2.out.f 2 (Nat.le_of_ble_eq_true rfl);have yf3:=F2.out.f 3 (Nat.le_of_ble_eq_true rfl);have yf4:=F2.out.f 4 (Nat.le_of_ble_eq_true rfl);have yf5:=F2.out.f 5 (Nat.le_of_ble_eq_true rfl);have yf6:=F2.out.f 6 (Nat.le_of_ble_eq_true rfl);have yf7:=F2.out.f 7 (Nat.le_of_ble_eq_true rfl);have yf8:=F2.out.f 8 (Nat.le_of_ble_eq_true rfl);have yf9:=F2.out.f 9 (Nat.le_of_ble_eq_true rfl);have yf10:=F2.out.f 10 (Nat.le_of_ble_eq_true rfl);have yf11:=F2.out.f 11 (Nat.le_of_ble_eq_true rfl);have yf12:=F2.out.f 12 (Nat.le_of_ble_eq_true rfl))
 have l2:=F2.out.lt
 obtain ⟨W1,hw_⟩:∃ W1,W1=(((((w1.setCell ⟨w.heap.size + 2,0,none⟩ (I Z d.sh.lo.pos)).setCell ⟨w.heap.size + 2,1,none⟩ (I Z d.sh.lo.vel)).setCell ⟨w.heap.size + 2,2,none⟩ (I Z d.sh.lo.door)).setCell ⟨w.heap.size + 2,3,none⟩ (I Z d.sh.up.pos)).setCell ⟨w.heap.size + 2,4,none⟩ (I Z d.sh.up.vel)).setCell ⟨w.heap.size + 2,5,none⟩ (I Z d.sh.up.door):=⟨_,rfl⟩
 rw [← hw_]
 have F2:Hid (Blk W1 (w.heap.size + 2) (cellsD ⟨d.sh,⟨⟨0,0⟩,⟨0,0⟩⟩,0,0,false⟩)):=by rw [hw_];exact putB_set [I Z d.sh.lo.pos,I Z d.sh.lo.vel,I Z d.sh.lo.door,I Z d.sh.up.pos,I Z d.sh.up.vel,I Z d.sh.up.door] _ 0 w1 F2.out (Nat.le_of_ble_eq_true rfl)
 have F0:Hid (Blk W1 w.heap.size (cellsD d)):=by rw [hw_];exact Blk.putB_other (by omega) [I Z d.sh.lo.pos,I Z d.sh.lo.vel,I Z d.sh.lo.door,I Z d.sh.up.pos,I Z d.sh.up.vel,I Z d.sh.up.door] 0 F0.out
 have F1:Hid (Blk W1 (w.heap.size + 1) (cellsD zeroD)):=by rw [hw_];exact Blk.putB_other (by omega) [I Z d.sh.lo.pos,I Z d.sh.lo.vel,I Z d.sh.lo.door,I Z d.sh.up.pos,I Z d.sh.up.vel,I Z d.sh.up.door] 0 F1.out
 have FB:Hid (Below w.heap.size w W1):=by rw [hw_];exact below_putB FB.out (by omega) [I Z d.sh.lo.pos,I Z d.sh.lo.vel,I Z d.sh.lo.door,I Z d.sh.up.pos,I Z d.sh.up.vel,I Z d.sh.up.door] 0
 clear hw_
 obtain ⟨x0,x1,x2,x3,x4,x5,x6,x7,x8,x9,x10,x11,x12⟩:=F0.out.c13
 obtain ⟨y0,y1,y2,y3,y4,y5,y6,y7,y8,y9,y10,y11,y12⟩:=F2.out.c13
 have yf0:=F2.out.f 0 (Nat.le_of_ble_eq_true rfl)
 have yf1:=F2.out.f 1 (Nat.le_of_ble_eq_true rfl)
 have yf2:=F2.out.f 2 (Nat.le_of_ble_eq_true rfl)
 have yf3:=F2.out.f 3 (Nat.le_of_ble_eq_true rfl)
 have yf4:=F2.out.f 4 (Nat.le_of_ble_eq_true rfl)
 have yf5:=F2.out.f 5 (Nat.le_of_ble_eq_true rfl)
 have yf6:=F2.out.f 6 (Nat.le_of_ble_eq_true rfl)
 have yf7:=F2.out.f 7 (Nat.le_of_ble_eq_true rfl)
 have yf8:=F2.out.f 8 (Nat.le_of_ble_eq_true rfl)
 have yf9:=F2.out.f 9 (Nat.le_of_ble_eq_true rfl)
 have yf10:=F2.out.f 10 (Nat.le_of_ble_eq_true rfl)
 have yf11:=F2.out.f 11 (Nat.le_of_ble_eq_true rfl)
 have yf12:=F2.out.f 12 (Nat.le_of_ble_eq_true rfl)
 go_upto_region 4 with (go_at_call 74;refine (toSpans_any d.sp _).mono ?_;rintro e w2 ⟨rfl,hb⟩;have F0:=bB F0 hb;have F1:=bB F1 hb;have F2:=bB F2 hb;have FB:=tB FB hb;clear hb;obtain ⟨y0,y1,y2,y3,y4,y5,y6,y7,y8,y9,y10,y11,y12⟩:=F2.out.c13;have yf0:=F2.out.f 0 (Nat.le_of_ble_eq_true rfl);have yf1:=F2.out.f 1 (Nat.le_of_ble_eq_true rfl);have yf2:=F2.out.f 2 (Nat.le_of_ble_eq_true rfl);have yf3:=F2.out.f 3 (Nat.le_of_ble_eq_true rfl);have yf4:=F2.out.f 4 (Nat.le_of_ble_eq_true rfl);have yf5:=F2.out.f 5 (Nat.le_of_ble_eq_true rfl);have yf6:=F2.out.f 6 (Nat.le_of_ble_eq_true rfl);have yf7:=F2.out.f 7 (Nat.le_of_ble_eq_true rfl);have yf8:=F2.out.f 8 (Nat.le_of_ble_eq_true rfl);have yf9:=F2.out.f 9 (Nat.le_of_ble_eq_true rfl);have yf10:=F2.out.f 10 (Nat.le_of_ble_eq_true rfl);have yf11:=F2.out.f 11 (Nat.le_of_ble_eq_true rfl);have yf12:=F2.out.f 12 (Nat.le_of_ble_eq_true rfl))
 obtain ⟨W2,hw_⟩:∃ W2,W2=(((w2.setCell ⟨w.heap.size + 2,6,none⟩ (I Z d.sp.l.lo)).setCell ⟨w.heap.size + 2,7,none⟩ (I Z d.sp.l.hi)).setCell ⟨w.heap.size + 2,8,none⟩ (I Z d.sp.u.lo)).setCell ⟨w.heap.size + 2,9,none⟩ (I Z d.sp.u.hi):=⟨_,rfl⟩
 rw [← hw_]
 have F2:Hid (Blk W2 (w.heap.size + 2) (cellsD ⟨d.sh,d.sp,0,0,false⟩)):=by rw [hw_];exact putB_set [I Z d.sp.l.lo,I Z d.sp.l.hi,I Z d.sp.u.lo,I Z d.sp.u.hi] _ 6 w2 F2.out (Nat.le_of_ble_eq_true rfl)
 have F0:Hid (Blk W2 w.heap.size (cellsD d)):=by rw [hw_];exact Blk.putB_other (by omega) [I Z d.sp.l.lo,I Z d.sp.l.hi,I Z d.sp.u.lo,I Z d.sp.u.hi] 6 F0.out
 have F1:Hid (Blk W2 (w.heap.size + 1) (cellsD zeroD)):=by rw [hw_];exact Blk.putB_other (by omega) [I Z d.sp.l.lo,I Z d.sp.l.hi,I Z d.sp.u.lo,I Z d.sp.u.hi] 6 F1.out
 have FB:Hid (Below w.heap.size w W2):=by rw [hw_];exact below_putB FB.out (by omega) [I Z d.sp.l.lo,I Z d.sp.l.hi,I Z d.sp.u.lo,I Z d.sp.u.hi] 6
 clear hw_
 obtain ⟨x0,x1,x2,x3,x4,x5,x6,x7,x8,x9,x10,x11,x12⟩:=F0.out.c13
 obtain ⟨y0,y1,y2,y3,y4,y5,y6,y7,y8,y9,y10,y11,y12⟩:=F2.out.c13
 have yf0:=F2.out.f 0 (Nat.le_of_ble_eq_true rfl)
 have yf1:=F2.out.f 1 (Nat.le_of_ble_eq_true rfl)
 have yf2:=F2.out.f 2 (Nat.le_of_ble_eq_true rfl)
 have yf3:=F2.out.f 3 (Nat.le_of_ble_eq_true rfl)
 have yf4:=F2.out.f 4 (Nat.le_of_ble_eq_true rfl)
 have yf5:=F2.out.f 5 (Nat.le_of_ble_eq_true rfl)
 have yf6:=F2.out.f 6 (Nat.le_of_ble_eq_true rfl)
 have yf7:=F2.out.f 7 (Nat.le_of_ble_eq_true rfl)
 have yf8:=F2.out.f 8 (Nat.le_of_ble_eq_true rfl)
 have yf9:=F2.out.f 9 (Nat.le_of_ble_eq_true rfl)
 have yf10:=F2.out.f 10 (Nat.le_of_ble_eq_true rfl)
 have yf11:=F2.out.f 11 (Nat.le_of_ble_eq_true rfl)
 have yf12:=F2.out.f 12 (Nat.le_of_ble_eq_true rfl)
 go_upto_region 7 with fail
 obtain ⟨W3,hw_⟩:∃ W3,W3=((W2.setCell ⟨w.heap.size + 2,10,none⟩ (I Z d.pl)).setCell ⟨w.heap.size + 2,11,none⟩ (I Z d.pu)).setCell ⟨w.heap.size + 2,12,none⟩ (.bool d.hd):=⟨_,rfl⟩
 rw [← hw_]
 have F2:Hid (Blk W3 (w.heap.size + 2) (cellsD d)):=by rw [hw_];exact putB_set [I Z d.pl,I Z d.pu,.bool d.hd] _ 10 W2 F2.out (Nat.le_of_ble_eq_true rfl)
 have F1:Hid (Blk W3 (w.heap.size + 1) (cellsD zeroD)):=by rw [hw_];exact Blk.putB_other (by omega) [I Z d.pl,I Z d.pu,.bool d.hd] 10 F1.out
 have FB:Hid (Below w.heap.size w W3):=by rw [hw_];exact below_putB FB.out (by omega) [I Z d.pl,I Z d.pu,.bool d.hd] 10
 clear hw_
 go_wp2_with (first | (refine load_blk 73 _ Tryz.underlying73 (by kernel_rfl) F2.out rfl rfl rfl ?_) | (refine store_blk (cellsD d) 73 _ _ (by kernel_rfl) (by kernel_rfl) (by kernel_rfl) F1.out rfl rfl rfl rfl ?_))
 exact bodyPost_ret (v:=.agg #[I Z d.sh.lo.pos,I Z d.sh.lo.vel,I Z d.sh.lo.door,I Z d.sh.up.pos,I Z d.sh.up.vel,I Z d.sh.up.door,I Z d.sp.l.lo,I Z d.sp.l.hi,I Z d.sp.u.lo,I Z d.sp.u.hi,I Z d.pl,I Z d.pu,.bool d.hd]) ((F1.out.row (cellsD d)).res _ Tryz.results40 Tryz.underlying73 (by kernel_rfl) rfl) rfl ⟨rfl,below_row FB.out (by omega) _⟩
theorem infoDK:(Tryz.prog.info? 73).map (fun i=>(i.zero,i.size,i.bytes))=some (some (.agg (cellsD zeroD).toArray),13,104):=by kernel_rfl
theorem undDS:Tryz.prog.underlying 32=some (.slice 73):=by kernel_rfl
theorem make_decks(n:Nat)(hn:n≤1048576)(w:World):(Instr.makeSlice 32 (I Z (n:Int)) (I Z (n:Int))).run Tryz.prog w=.ok (.slice (some ⟨w.heap.size,0,none⟩) n n) (w.alloc (.cells (madeCells (cellsD zeroD).toArray (n * 13)) 73)):=by
 obtain ⟨i,hi,hz,hs,hb⟩:=info_parts infoDK
 have r:=run_make (P:=Tryz.prog) w 32 73 i (.agg (cellsD zeroD).toArray) undDS hi hz .i64 .i64 n n (by omega) (Int.le_refl _) (by rw [hb];omega) (by omega)
 rw [hs] at r
 have e:(Value.agg (cellsD zeroD).toArray).cells=(cellsD zeroD).toArray:=rfl
 rw [e] at r
 simpa using r
theorem own_madeD(n:Nat)(hn:n≤1048576)(w:World)(B:Nat)(hB:B≤w.heap.size):OwD (w.alloc (.cells (madeCells (cellsD zeroD).toArray (n * 13)) 73)) B w.heap.size n n (List.replicate n zeroD):=by
 have a:=World.ownsRow_lit (base:=B) (e:=73) (size:=13) w (madeCells (cellsD zeroD).toArray (n * 13)) n hB (by unfold maxLen;omega) (size_madeCells _ _)
 rw [made_flatD] at a
 exact ⟨List.length_replicate ..,a⟩
theorem take_repD{l:List Dk}{i:Nat}{p:Dk}(h:l[i]? = some p):(l.take i ++ List.replicate (l.length - i) zeroD).set i p=l.take (i + 1) ++ List.replicate (l.length - (i + 1)) zeroD:=by
 have hi:i < l.length:=(List.getElem?_eq_some_iff.1 h).1
 have e:l[i]=p:=(List.getElem?_eq_some_iff.1 h).2
 rw [List.set_append_right _ _ (by rw [List.length_take];omega),List.length_take,Nat.min_eq_left (by omega),Nat.sub_self]
 rw [show l.length - i=(l.length - (i + 1)) + 1 by omega,List.replicate_succ,List.set_cons_zero,List.take_succ_eq_append_getElem hi,e]
 simp
theorem toDeckS_any(a0:Option Addr)(cap:Nat)(l:List Dk)(hl:l.length≤1048576)(w:World)(hP:DIn w w.heap.size a0 l) :
  Calls Tryz.prog 20 #[.slice a0 l.length cap] w fun e w'=>∃ g,e=.returned (.slice (some ⟨g,0,none⟩) l.length l.length)∧OwD w' w.heap.size g l.length l.length l∧Below w.heap.size w w':=by
 have hmk:=make_decks l.length hl
 have HP:=zH hP
 have HO:Hid (OwD (w.alloc (.cells (madeCells (cellsD zeroD).toArray (l.length * 13)) 73)) w.heap.size w.heap.size l.length l.length (List.replicate l.length zeroD)):=own_madeD l.length hl w w.heap.size (Nat.le_refl _)
 clear hP
 go_enter Tryz.func20,Tryz.ntmps20
 go_wp2_with fail
 clear hmk
 go_loopw [4] (fun ii wr=>∃ i:Nat,ii=I Z i∧i≤l.length∧OwD wr w.heap.size w.heap.size l.length l.length (l.take i ++ List.replicate (l.length - i) zeroD)∧Below w.heap.size w wr) (fun ii _=>l.length - (intOf ii).toNat)
 case atStart=>exact ⟨0,rfl,by omega,by simpa using HO.out,(Below.refl _ _).alloc (Nat.le_refl _) _⟩
 case round=>
  obtain ⟨i,rfl,hi,ho,hb⟩:=hrel
  clear HO
  have FB:=zH hb
  have FO:=zH ho
  by_cases hlt:i < l.length
  ·obtain ⟨p,hp⟩:∃ p,l[i]? = some p:=⟨_,List.getElem?_eq_getElem hlt⟩
   rcases HP.out with h0 | ⟨b,o,rfl,hbl,h13⟩
   ·rw [h0] at hlt;simp at hlt
   obtain ⟨c0,c1,c2,c3,c4,c5,c6,c7,c8,c9,c10,c11,c12⟩:=(h13 i p hp).below hb hbl
   have hz:(l.take i ++ List.replicate (l.length - i) zeroD)[i]? = some zeroD:=by
    rw [List.getElem?_append_right (by rw [List.length_take];omega),List.length_take,Nat.min_eq_left (by omega),Nat.sub_self,List.getElem?_replicate,if_pos (by omega)]
   have HZ:=zH hz
   have HE:Hid ((l.take i ++ List.replicate (l.length - i) zeroD).set i p=l.take (i + 1) ++ List.replicate (l.length - (i + 1)) zeroD):=take_repD hp
   clear hp hz hb ho h13
   go_wp2_with (go_at_call 40;refine (toDeck_any p _).mono ?_;rintro e w1 ⟨rfl,hb⟩;have FO:Hid (OwD w1 w.heap.size w.heap.size l.length l.length (l.take i ++ List.replicate (l.length - i) zeroD)):=FO.out.below hb FO.out.bl.2;have FB:=tB FB hb;clear hb;obtain ⟨d0,d1,d2,d3,d4,d5,d6,d7,d8,d9,d10,d11,d12⟩:=FO.out.d13 HZ.out;have f0:=FO.out.fz (i * 13);have f1:=FO.out.fz (i * 13 + 1);have f2:=FO.out.fz (i * 13 + 2);have f3:=FO.out.fz (i * 13 + 3);have f4:=FO.out.fz (i * 13 + 4);have f5:=FO.out.fz (i * 13 + 5);have f6:=FO.out.fz (i * 13 + 6);have f7:=FO.out.fz (i * 13 + 7);have f8:=FO.out.fz (i * 13 + 8);have f9:=FO.out.fz (i * 13 + 9);have f10:=FO.out.fz (i * 13 + 10);have f11:=FO.out.fz (i * 13 + 11);have f12:=FO.out.fz (i * 13 + 12))
   go_roundw
   case rel=>exact ⟨i + 1,by simp,by omega,HE.out ▸ FO.out.put p HZ.out,below_putD FB.out (Nat.le_refl _) _ _⟩
   case measure=>simp [intOf];omega
  ·have ei:i=l.length:=by omega
   subst ei
   have HO:Hid (OwD wr w.heap.size w.heap.size l.length l.length l):=by
    have q:=FO.out
    rw [List.take_length,Nat.sub_self,List.replicate_zero,List.append_nil] at q
    exact q
   clear hb ho FO
   go_wp2_with fail
   go_ret
   exact ⟨_,rfl,HO.out,FB.out⟩
theorem szGroup_any(h:Hs)(da:Option Addr)(dn dc:Nat)(nx:Int)(pa:Option Addr)(pn pc:Nat)(tk:Int)(rc:Bool)(hd:dn≤maxLen)(hp:pn≤maxLen)(w:World) :
  Calls Tryz.prog 4 #[.agg #[I Z h.fl,I Z h.gp,I Z h.ln,I Z h.rf,I Z h.sp,I Z h.pu,I Z h.br,I Z h.dr,I Z h.lv,I Z h.dO,I Z h.ld,I Z h.qu,.slice da dn dc,I Z nx,.slice pa pn pc,I Z tk,.bool rc],I Z 1048576] w fun e w'=>e=.returned (I Z (if (1048576:Int) < (dn:Int) + pn then -1 else 1048576 - dn - pn))∧Below w.heap.size w w':=by
 have HB:Hid (Below w.heap.size w (w.alloc (.cells #[I Z h.fl,I Z h.gp,I Z h.ln,I Z h.rf,I Z h.sp,I Z h.pu,I Z h.br,I Z h.dr,I Z h.lv,I Z h.dO,I Z h.ld,I Z h.qu,.slice da dn dc,I Z nx,.slice pa pn pc,I Z tk,.bool rc] 29))):=(Below.refl _ _).alloc (Nat.le_refl _) _
 by_cases c:(1048576:Int) < dn
 ·rw [if_pos (by omega)]
  go_enter Tryz.func4,Tryz.ntmps4
  go_wp2_with (go_at_call 13;refine (szDeckS_any da dn dc 1048576 (by omega) (by omega) hd _).mono ?_;rw [if_pos c];rintro e w' ⟨rfl,hw⟩;obtain rfl:=hw.symm;clear hw)
  go_ret
  exact ⟨rfl,HB.out⟩
 ·have d:decide ((1048576:Int) - dn < 0)=false:=decide_eq_false (by omega)
  obtain ⟨lf,hlf⟩:∃ lf:Int,(1048576:Int) - dn=lf:=⟨_,rfl⟩
  have e0:0≤lf:=by omega
  have e1:lf≤1048576:=by omega
  have CD:Hid ((if (1048576:Int) < (dn:Int) then (-1:Int) else 1048576 - dn)=lf):=by rw [if_neg c];exact hlf
  have er:(if (1048576:Int) < (dn:Int) + pn then (-1:Int) else 1048576 - dn - pn)=(if lf < pn then -1 else lf - pn):=by
   by_cases q:lf < pn
   ·rw [if_pos q,if_pos (by omega)]
   ·rw [if_neg q,if_neg (by omega)];omega
  rw [er]
  rw [hlf] at d
  clear er hlf c
  by_cases c2:lf < pn
  ·have CP:Hid ((if lf < (pn:Int) then (-1:Int) else lf - pn)=-1):=if_pos c2
   rw [if_pos c2]
   clear c2
   go_enter Tryz.func4,Tryz.ntmps4
   go_wp2_with (first | (go_at_call 13;refine (szDeckS_any da dn dc 1048576 (by omega) (by omega) hd _).mono ?_;rw [CD.out];rintro e w' ⟨rfl,hw⟩;obtain rfl:=hw.symm;clear hw) | (go_at_call 14;refine (szLedger_any nx pa pn pc lf e0 e1 hp _).mono ?_;rw [CP.out];rintro e w2 ⟨rfl,hb⟩;have HB:=zH (HB.out.trans (hb.mono HB.out.size));clear hb))
   go_ret
   exact ⟨rfl,HB.out⟩
  ·have CP:Hid ((if lf < (pn:Int) then (-1:Int) else lf - pn)=lf - pn):=if_neg c2
   have d2:decide (lf - pn < 0)=false:=decide_eq_false (by omega)
   rw [if_neg c2]
   clear c2
   go_enter Tryz.func4,Tryz.ntmps4
   go_wp2_with (first | (go_at_call 13;refine (szDeckS_any da dn dc 1048576 (by omega) (by omega) hd _).mono ?_;rw [CD.out];rintro e w' ⟨rfl,hw⟩;obtain rfl:=hw.symm;clear hw) | (go_at_call 14;refine (szLedger_any nx pa pn pc lf e0 e1 hp _).mono ?_;rw [CP.out];rintro e w2 ⟨rfl,hb⟩;have HB:=zH (HB.out.trans (hb.mono HB.out.size));clear hb))
   go_ret
   exact ⟨rfl,HB.out⟩
end Go.Proofs.YteimojoicfjdjaaGreat
namespace Go.Proofs.YteimojoicfjdjaaGreat
set_option maxRecDepth 20000
set_option maxHeartbeats 32000000
open Value renaming int → I
open IntKind renaming i64 → Z
open Go.RowKit Pl
set_option linter.unusedSimpArgs false
set_option linter.unusedVariables false
theorem OwD.putB{B g n cap b:Nat}{l:List Dk}(hne:g ≠ b):∀ (vs:List Value) (k:Nat) (W:World),OwD W B g n cap l→OwD (putB W b k vs) B g n cap l:=by
 intro vs
 induction vs with
 | nil=>intro k W h;exact h
 | cons v vs ih=>intro k W h;exact ih (k + 1) _ (h.other (p:=⟨b,k,none⟩) hne v)
theorem Ow.putB{B g n cap b:Nat}{l:List Pe}(hne:g ≠ b):∀ (vs:List Value) (k:Nat) (W:World),Ow W B g n cap l→Ow (putB W b k vs) B g n cap l:=by
 intro vs
 induction vs with
 | nil=>intro k W h;exact h
 | cons v vs ih=>intro k W h;exact ih (k + 1) _ (h.other (p:=⟨b,k,none⟩) hne v)
theorem OwD.row{W:World}{B g n cap b:Nat}{l:List Dk}(h:OwD W B g n cap l)(hne:g ≠ b)(vs:Array Value):OwD (W.setRow b vs) B g n cap l:=
 h.kept (row:=some b) ⟨rfl,rfl,rfl,by simp,fun i _ hi=>setRow_other W b i vs (fun e=>hi (by rw [e]))⟩ (by simpa using hne)
theorem Ow.row{W:World}{B g n cap b:Nat}{l:List Pe}(h:Ow W B g n cap l)(hne:g ≠ b)(vs:Array Value):Ow (W.setRow b vs) B g n cap l:=
 h.kept (row:=some b) ⟨rfl,rfl,rfl,by simp,fun i _ hi=>setRow_other W b i vs (fun e=>hi (by rw [e]))⟩ (by simpa using hne)
theorem GO.row{W:World}{B gd gp b:Nat}{ds:List Dk}{ps:List Pe}(h:GO W B gd gp ds ps)(h1:gd ≠ b)(h2:gp ≠ b)(vs:Array Value):GO (W.setRow b vs) B gd gp ds ps:=⟨h.d.row h1 vs,h.p.row h2 vs,h.ne⟩
theorem toGroup_any(h:Hs)(ds:List Dk)(da:Option Addr)(dc:Nat)(nx:Int)(ps:List Pe)(pa:Option Addr)(pc:Nat)(tk:Int)(rc:Bool)(hld:ds.length≤1048576)(hlp:ps.length≤1048576)(w:World)(hD:DIn w w.heap.size da ds)(hP:PIn w w.heap.size pa ps) :
  Calls Tryz.prog 6 #[.agg #[I Z h.fl,I Z h.gp,I Z h.ln,I Z h.rf,I Z h.sp,I Z h.pu,I Z h.br,I Z h.dr,I Z h.lv,I Z h.dO,I Z h.ld,I Z h.qu,.slice da ds.length dc,I Z nx,.slice pa ps.length pc,I Z tk,.bool rc]] w fun e w'=>∃ gd gp,e=.returned (.agg #[I Z h.fl,I Z h.gp,I Z h.ln,I Z h.rf,I Z h.sp,I Z h.pu,I Z h.br,I Z h.dr,I Z h.lv,I Z h.dO,I Z h.ld,I Z h.qu,.slice (some ⟨gd,0,none⟩) ds.length ds.length,I Z nx,.slice (some ⟨gp,0,none⟩) ps.length ps.length,I Z tk,.bool rc])∧GO w' w.heap.size gd gp ds ps∧Below w.heap.size w w':=by
 have HD:=zH hD
 have HP:=zH hP
 clear hD hP
 have F0:Hid (Blk (((w.alloc (.cells #[I Z h.fl,I Z h.gp,I Z h.ln,I Z h.rf,I Z h.sp,I Z h.pu,I Z h.br,I Z h.dr,I Z h.lv,I Z h.dO,I Z h.ld,I Z h.qu,.slice da ds.length dc,I Z nx,.slice pa ps.length pc,I Z tk,.bool rc] 29)).alloc (.cells #[I Z 0,I Z 0,I Z 0,I Z 0,I Z 0,I Z 0,I Z 0,I Z 0,I Z 0,I Z 0,I Z 0,I Z 0,.slice none 0 0,I Z 0,.slice none 0 0,I Z 0,.bool false] 37)).alloc (.cells #[I Z 0,I Z 0,I Z 0,I Z 0,I Z 0,I Z 0,I Z 0,I Z 0,I Z 0,I Z 0,I Z 0,I Z 0,.slice none 0 0,I Z 0,.slice none 0 0,I Z 0,.bool false] 37)) w.heap.size (gvs h (.slice da ds.length dc) nx (.slice pa ps.length pc) tk rc)):=((Blk.at_ w #[I Z h.fl,I Z h.gp,I Z h.ln,I Z h.rf,I Z h.sp,I Z h.pu,I Z h.br,I Z h.dr,I Z h.lv,I Z h.dO,I Z h.ld,I Z h.qu,.slice da ds.length dc,I Z nx,.slice pa ps.length pc,I Z tk,.bool rc] _ _ rfl).alloc _).alloc _
 have F1:Hid (Blk (((w.alloc (.cells #[I Z h.fl,I Z h.gp,I Z h.ln,I Z h.rf,I Z h.sp,I Z h.pu,I Z h.br,I Z h.dr,I Z h.lv,I Z h.dO,I Z h.ld,I Z h.qu,.slice da ds.length dc,I Z nx,.slice pa ps.length pc,I Z tk,.bool rc] 29)).alloc (.cells #[I Z 0,I Z 0,I Z 0,I Z 0,I Z 0,I Z 0,I Z 0,I Z 0,I Z 0,I Z 0,I Z 0,I Z 0,.slice none 0 0,I Z 0,.slice none 0 0,I Z 0,.bool false] 37)).alloc (.cells #[I Z 0,I Z 0,I Z 0,I Z 0,I Z 0,I Z 0,I Z 0,I Z 0,I Z 0,I Z 0,I Z 0,I Z 0,.slice none 0 0,I Z 0,.slice none 0 0,I Z 0,.bool false] 37)) (w.heap.size + 1) (gvs zeroH (.slice none 0 0) 0 (.slice none 0 0) 0 false)):=(Blk.at_ _ #[I Z 0,I Z 0,I Z 0,I Z 0,I Z 0,I Z 0,I Z 0,I Z 0,I Z 0,I Z 0,I Z 0,I Z 0,.slice none 0 0,I Z 0,.slice none 0 0,I Z 0,.bool false] _ _ (by simp)).alloc _
 have F2:Hid (Blk (((w.alloc (.cells #[I Z h.fl,I Z h.gp,I Z h.ln,I Z h.rf,I Z h.sp,I Z h.pu,I Z h.br,I Z h.dr,I Z h.lv,I Z h.dO,I Z h.ld,I Z h.qu,.slice da ds.length dc,I Z nx,.slice pa ps.length pc,I Z tk,.bool rc] 29)).alloc (.cells #[I Z 0,I Z 0,I Z 0,I Z 0,I Z 0,I Z 0,I Z 0,I Z 0,I Z 0,I Z 0,I Z 0,I Z 0,.slice none 0 0,I Z 0,.slice none 0 0,I Z 0,.bool false] 37)).alloc (.cells #[I Z 0,I Z 0,I Z 0,I Z 0,I Z 0,I Z 0,I Z 0,I Z 0,I Z 0,I Z 0,I Z 0,I Z 0,.slice none 0 0,I Z 0,.slice none 0 0,I Z 0,.bool false] 37)) (w.heap.size + 2) (gvs zeroH (.slice none 0 0) 0 (.slice none 0 0) 0 false)):=Blk.at_ _ #[I Z 0,I Z 0,I Z 0,I Z 0,I Z 0,I Z 0,I Z 0,I Z 0,I Z 0,I Z 0,I Z 0,I Z 0,.slice none 0 0,I Z 0,.slice none 0 0,I Z 0,.bool false] _ _ (by simp)
 have FB:Hid (Below w.heap.size w (((w.alloc (.cells #[I Z h.fl,I Z h.gp,I Z h.ln,I Z h.rf,I Z h.sp,I Z h.pu,I Z h.br,I Z h.dr,I Z h.lv,I Z h.dO,I Z h.ld,I Z h.qu,.slice da ds.length dc,I Z nx,.slice pa ps.length pc,I Z tk,.bool rc] 29)).alloc (.cells #[I Z 0,I Z 0,I Z 0,I Z 0,I Z 0,I Z 0,I Z 0,I Z 0,I Z 0,I Z 0,I Z 0,I Z 0,.slice none 0 0,I Z 0,.slice none 0 0,I Z 0,.bool false] 37)).alloc (.cells #[I Z 0,I Z 0,I Z 0,I Z 0,I Z 0,I Z 0,I Z 0,I Z 0,I Z 0,I Z 0,I Z 0,I Z 0,.slice none 0 0,I Z 0,.slice none 0 0,I Z 0,.bool false] 37))):=(((Below.refl _ _).alloc (Nat.le_refl _) _).alloc (by simp) _).alloc (by simp;omega) _
 obtain ⟨W0,hW0⟩:∃ W0,W0=(((w.alloc (.cells #[I Z h.fl,I Z h.gp,I Z h.ln,I Z h.rf,I Z h.sp,I Z h.pu,I Z h.br,I Z h.dr,I Z h.lv,I Z h.dO,I Z h.ld,I Z h.qu,.slice da ds.length dc,I Z nx,.slice pa ps.length pc,I Z tk,.bool rc] 29)).alloc (.cells #[I Z 0,I Z 0,I Z 0,I Z 0,I Z 0,I Z 0,I Z 0,I Z 0,I Z 0,I Z 0,I Z 0,I Z 0,.slice none 0 0,I Z 0,.slice none 0 0,I Z 0,.bool false] 37)).alloc (.cells #[I Z 0,I Z 0,I Z 0,I Z 0,I Z 0,I Z 0,I Z 0,I Z 0,I Z 0,I Z 0,I Z 0,I Z 0,.slice none 0 0,I Z 0,.slice none 0 0,I Z 0,.bool false] 37)):=⟨_,rfl⟩
 rw [← hW0] at F0 F1 F2 FB
 have HW0:=zH hW0
 clear hW0
 go_enter Tryz.func6,Tryz.ntmps6
 go_upto_region 2 with fail
 rw [← HW0.out]
 clear HW0
 obtain ⟨x0,x1,x2,x3,x4,x5,x6,x7,x8,x9,x10,x11,x12,x13,x14,x15,x16⟩:=F0.out.c17
 go_upto_region 3 with (go_at_call 19;refine (toHouse_any h _).mono ?_;rintro e w1 ⟨rfl,hb⟩;have F0:=zH (F0.out.below hb F0.out.lt);have F1:=zH (F1.out.below hb F1.out.lt);have F2:=zH (F2.out.below hb F2.out.lt);have FB:=tB FB hb;clear hb;obtain ⟨y0,y1,y2,y3,y4,y5,y6,y7,y8,y9,y10,y11⟩:=F2.out.c12;have yf0:=F2.out.f 0 (Nat.le_of_ble_eq_true rfl);have yf1:=F2.out.f 1 (Nat.le_of_ble_eq_true rfl);have yf2:=F2.out.f 2 (Nat.le_of_ble_eq_true rfl);have yf3:=F2.out.f 3 (Nat.le_of_ble_eq_true rfl);have yf4:=F2.out.f 4 (Nat.le_of_ble_eq_true rfl);have yf5:=F2.out.f 5 (Nat.le_of_ble_eq_true rfl);have yf6:=F2.out.f 6 (Nat.le_of_ble_eq_true rfl);have yf7:=F2.out.f 7 (Nat.le_of_ble_eq_true rfl);have yf8:=F2.out.f 8 (Nat.le_of_ble_eq_true rfl);have yf9:=F2.out.f 9 (Nat.le_of_ble_eq_true rfl);have yf10:=F2.out.f 10 (Nat.le_of_ble_eq_true rfl);have yf11:=F2.out.f 11 (Nat.le_of_ble_eq_true rfl))
 have l2:=F2.out.lt
 obtain ⟨W1,hw_⟩:∃ W1,W1=(((((((((((w1.setCell ⟨w.heap.size + 2,0,none⟩ (I Z h.fl)).setCell ⟨w.heap.size + 2,1,none⟩ (I Z h.gp)).setCell ⟨w.heap.size + 2,2,none⟩ (I Z h.ln)).setCell ⟨w.heap.size + 2,3,none⟩ (I Z h.rf)).setCell ⟨w.heap.size + 2,4,none⟩ (I Z h.sp)).setCell ⟨w.heap.size + 2,5,none⟩ (I Z h.pu)).setCell ⟨w.heap.size + 2,6,none⟩ (I Z h.br)).setCell ⟨w.heap.size + 2,7,none⟩ (I Z h.dr)).setCell ⟨w.heap.size + 2,8,none⟩ (I Z h.lv)).setCell ⟨w.heap.size + 2,9,none⟩ (I Z h.dO)).setCell ⟨w.heap.size + 2,10,none⟩ (I Z h.ld)).setCell ⟨w.heap.size + 2,11,none⟩ (I Z h.qu):=⟨_,rfl⟩
 rw [← hw_]
 have F2:Hid (Blk W1 (w.heap.size + 2) (gvs h (.slice none 0 0) 0 (.slice none 0 0) 0 false)):=by rw [hw_];exact putB_set [I Z h.fl,I Z h.gp,I Z h.ln,I Z h.rf,I Z h.sp,I Z h.pu,I Z h.br,I Z h.dr,I Z h.lv,I Z h.dO,I Z h.ld,I Z h.qu] _ 0 w1 F2.out (Nat.le_of_ble_eq_true rfl)
 have F0:Hid (Blk W1 w.heap.size (gvs h (.slice da ds.length dc) nx (.slice pa ps.length pc) tk rc)):=by rw [hw_];exact Blk.putB_other (by omega) [I Z h.fl,I Z h.gp,I Z h.ln,I Z h.rf,I Z h.sp,I Z h.pu,I Z h.br,I Z h.dr,I Z h.lv,I Z h.dO,I Z h.ld,I Z h.qu] 0 F0.out
 have F1:Hid (Blk W1 (w.heap.size + 1) (gvs zeroH (.slice none 0 0) 0 (.slice none 0 0) 0 false)):=by rw [hw_];exact Blk.putB_other (by omega) [I Z h.fl,I Z h.gp,I Z h.ln,I Z h.rf,I Z h.sp,I Z h.pu,I Z h.br,I Z h.dr,I Z h.lv,I Z h.dO,I Z h.ld,I Z h.qu] 0 F1.out
 have FB:Hid (Below w.heap.size w W1):=by rw [hw_];exact below_putB FB.out (by omega) [I Z h.fl,I Z h.gp,I Z h.ln,I Z h.rf,I Z h.sp,I Z h.pu,I Z h.br,I Z h.dr,I Z h.lv,I Z h.dO,I Z h.ld,I Z h.qu] 0
 clear hw_
 clear y0 yf0 y1 yf1 y2 yf2 y3 yf3 y4 yf4 y5 yf5 y6 yf6 y7 yf7 y8 yf8 y9 yf9 y10 yf10 y11 yf11
 obtain ⟨x0,x1,x2,x3,x4,x5,x6,x7,x8,x9,x10,x11,x12,x13,x14,x15,x16⟩:=F0.out.c17
 have ll:=F2.out.lt
 go_upto_region 4 with (go_at_call 20;refine (toDeckS_any da dc ds hld _ ((HD.out.below FB.out (Nat.le_refl _)).mono FB.out.size)).mono ?_;rintro e w2 ⟨gd,rfl,ho,hb⟩;have GD:=zH (ho.base FB.out.size);have lgd:=ho.bl.1;clear ho;have F0:=zH (F0.out.below hb F0.out.lt);have F1:=zH (F1.out.below hb F1.out.lt);have F2:=zH (F2.out.below hb F2.out.lt);have FB:=tB FB hb;clear hb;have y12:=F2.out.c 12 _ rfl;have yf12:=F2.out.f 12 (Nat.le_of_ble_eq_true rfl))
 obtain ⟨W2,hw_⟩:∃ W2,W2=w2.setCell ⟨w.heap.size + 2,12,none⟩ (.slice (some ⟨gd,0,none⟩) ds.length ds.length):=⟨_,rfl⟩
 rw [← hw_]
 have F2:Hid (Blk W2 (w.heap.size + 2) (gvs h (.slice (some ⟨gd,0,none⟩) ds.length ds.length) 0 (.slice none 0 0) 0 false)):=by rw [hw_];exact putB_set [.slice (some ⟨gd,0,none⟩) ds.length ds.length] _ 12 w2 F2.out (Nat.le_of_ble_eq_true rfl)
 have F0:Hid (Blk W2 w.heap.size (gvs h (.slice da ds.length dc) nx (.slice pa ps.length pc) tk rc)):=by rw [hw_];exact Blk.putB_other (by omega) [.slice (some ⟨gd,0,none⟩) ds.length ds.length] 12 F0.out
 have F1:Hid (Blk W2 (w.heap.size + 1) (gvs zeroH (.slice none 0 0) 0 (.slice none 0 0) 0 false)):=by rw [hw_];exact Blk.putB_other (by omega) [.slice (some ⟨gd,0,none⟩) ds.length ds.length] 12 F1.out
 have GD:Hid (OwD W2 w.heap.size gd ds.length ds.length ds):=by rw [hw_];exact GD.out.other (by simp;omega) _
 have FB:Hid (Below w.heap.size w W2):=by rw [hw_];exact below_putB FB.out (by omega) [.slice (some ⟨gd,0,none⟩) ds.length ds.length] 12
 clear hw_
 clear y12 yf12
 obtain ⟨x0,x1,x2,x3,x4,x5,x6,x7,x8,x9,x10,x11,x12,x13,x14,x15,x16⟩:=F0.out.c17
 have lm:=F2.out.lt
 have lgs:=GD.out.bl.2
 go_upto_region 5 with (go_at_call 21;refine (toLedger_any nx pa pc ps hlp _ ((HP.out.below FB.out (Nat.le_refl _)).mono FB.out.size)).mono ?_;rintro e w3 ⟨gp,rfl,ho,hb⟩;have GP:=zH (ho.base FB.out.size);have lgp:=ho.bl.1;clear ho;have GD:Hid (OwD w3 w.heap.size gd ds.length ds.length ds):=GD.out.below hb GD.out.bl.2;have F0:=zH (F0.out.below hb F0.out.lt);have F1:=zH (F1.out.below hb F1.out.lt);have F2:=zH (F2.out.below hb F2.out.lt);have FB:=tB FB hb;clear hb;have y13:=F2.out.c 13 _ rfl;have y14:=F2.out.c 14 _ rfl;have yf13:=F2.out.f 13 (Nat.le_of_ble_eq_true rfl);have yf14:=F2.out.f 14 (Nat.le_of_ble_eq_true rfl))
 obtain ⟨W3,hw_⟩:∃ W3,W3=(w3.setCell ⟨w.heap.size + 2,13,none⟩ (I Z nx)).setCell ⟨w.heap.size + 2,14,none⟩ (.slice (some ⟨gp,0,none⟩) ps.length ps.length):=⟨_,rfl⟩
 rw [← hw_]
 have F2:Hid (Blk W3 (w.heap.size + 2) (gvs h (.slice (some ⟨gd,0,none⟩) ds.length ds.length) nx (.slice (some ⟨gp,0,none⟩) ps.length ps.length) 0 false)):=by rw [hw_];exact putB_set [I Z nx,.slice (some ⟨gp,0,none⟩) ps.length ps.length] _ 13 w3 F2.out (Nat.le_of_ble_eq_true rfl)
 have F0:Hid (Blk W3 w.heap.size (gvs h (.slice da ds.length dc) nx (.slice pa ps.length pc) tk rc)):=by rw [hw_];exact Blk.putB_other (by omega) [I Z nx,.slice (some ⟨gp,0,none⟩) ps.length ps.length] 13 F0.out
 have F1:Hid (Blk W3 (w.heap.size + 1) (gvs zeroH (.slice none 0 0) 0 (.slice none 0 0) 0 false)):=by rw [hw_];exact Blk.putB_other (by omega) [I Z nx,.slice (some ⟨gp,0,none⟩) ps.length ps.length] 13 F1.out
 have GD:Hid (OwD W3 w.heap.size gd ds.length ds.length ds):=by rw [hw_];exact (GD.out.other (p:=⟨w.heap.size + 2,13,none⟩) (by simp;omega) _).other (p:=⟨w.heap.size + 2,14,none⟩) (by simp;omega) _
 have GP:Hid (Ow W3 w.heap.size gp ps.length ps.length ps):=by rw [hw_];exact (GP.out.other (p:=⟨w.heap.size + 2,13,none⟩) (by simp;omega) _).other (p:=⟨w.heap.size + 2,14,none⟩) (by simp;omega) _
 have FB:Hid (Below w.heap.size w W3):=by rw [hw_];exact below_putB FB.out (by omega) [I Z nx,.slice (some ⟨gp,0,none⟩) ps.length ps.length] 13
 clear hw_
 clear y13 yf13 y14 yf14
 obtain ⟨x0,x1,x2,x3,x4,x5,x6,x7,x8,x9,x10,x11,x12,x13,x14,x15,x16⟩:=F0.out.c17
 have y15:=F2.out.c 15 _ rfl
 have y16:=F2.out.c 16 _ rfl
 have yf15:=F2.out.f 15 (Nat.le_of_ble_eq_true rfl)
 have yf16:=F2.out.f 16 (Nat.le_of_ble_eq_true rfl)
 go_upto_region 7 with fail
 obtain ⟨W4,hw_⟩:∃ W4,W4=(W3.setCell ⟨w.heap.size + 2,15,none⟩ (I Z tk)).setCell ⟨w.heap.size + 2,16,none⟩ (.bool rc):=⟨_,rfl⟩
 rw [← hw_]
 have F2:Hid (Blk W4 (w.heap.size + 2) (gvs h (.slice (some ⟨gd,0,none⟩) ds.length ds.length) nx (.slice (some ⟨gp,0,none⟩) ps.length ps.length) tk rc)):=by rw [hw_];exact putB_set [I Z tk,.bool rc] _ 15 W3 F2.out (Nat.le_of_ble_eq_true rfl)
 have F1:Hid (Blk W4 (w.heap.size + 1) (gvs zeroH (.slice none 0 0) 0 (.slice none 0 0) 0 false)):=by rw [hw_];exact Blk.putB_other (by omega) [I Z tk,.bool rc] 15 F1.out
 have GD:Hid (OwD W4 w.heap.size gd ds.length ds.length ds):=by rw [hw_];exact (GD.out.other (p:=⟨w.heap.size + 2,15,none⟩) (by simp;omega) _).other (p:=⟨w.heap.size + 2,16,none⟩) (by simp;omega) _
 have GP:Hid (Ow W4 w.heap.size gp ps.length ps.length ps):=by rw [hw_];exact (GP.out.other (p:=⟨w.heap.size + 2,15,none⟩) (by simp;omega) _).other (p:=⟨w.heap.size + 2,16,none⟩) (by simp;omega) _
 have FB:Hid (Below w.heap.size w W4):=by rw [hw_];exact below_putB FB.out (by omega) [I Z tk,.bool rc] 15
 clear hw_
 clear y15 yf15 y16 yf16
 have GG:Hid (GO W4 w.heap.size gd gp ds ps):=⟨GD.out,GP.out,by omega⟩
 go_wp2_with (first | (refine load_blk 37 _ Tryz.underlying37 (by kernel_rfl) F2.out rfl rfl rfl ?_) | (refine store_blk (gvs h (.slice (some ⟨gd,0,none⟩) ds.length ds.length) nx (.slice (some ⟨gp,0,none⟩) ps.length ps.length) tk rc) 37 _ _ (by kernel_rfl) (by kernel_rfl) (by kernel_rfl) F1.out rfl rfl rfl rfl ?_))
 exact bodyPost_ret (v:=.agg #[I Z h.fl,I Z h.gp,I Z h.ln,I Z h.rf,I Z h.sp,I Z h.pu,I Z h.br,I Z h.dr,I Z h.lv,I Z h.dO,I Z h.ld,I Z h.qu,.slice (some ⟨gd,0,none⟩) ds.length ds.length,I Z nx,.slice (some ⟨gp,0,none⟩) ps.length ps.length,I Z tk,.bool rc]) ((F1.out.row (gvs h (.slice (some ⟨gd,0,none⟩) ds.length ds.length) nx (.slice (some ⟨gp,0,none⟩) ps.length ps.length) tk rc)).res _ Tryz.results6 Tryz.underlying37 (by kernel_rfl) rfl) rfl ⟨gd,gp,rfl,GG.out.row (by omega) (by omega) _,below_row FB.out (by omega) _⟩
theorem eqHouse_same(h:Hs)(w:World) :
  Calls Tryz.prog 26 #[.agg #[I Z h.fl,I Z h.gp,I Z h.ln,I Z h.rf,I Z h.sp,I Z h.pu,I Z h.br,I Z h.dr,I Z h.lv,I Z h.dO,I Z h.ld,I Z h.qu],.agg #[I Z h.fl,I Z h.gp,I Z h.ln,I Z h.rf,I Z h.sp,I Z h.pu,I Z h.br,I Z h.dr,I Z h.lv,I Z h.dO,I Z h.ld,I Z h.qu]] w fun e w'=>e=.returned (.bool true)∧Below w.heap.size w w':=by
 go_enter Tryz.func26,Tryz.ntmps26
 go_wp2
 go_ret
 exact ⟨rfl,by repeat (first | exact Below.refl _ _ | (refine Below.alloc ?_ ?_ _) | (refine Below.setCell ?_ ?_ _) | (simp;omega) | simp)⟩
theorem eqDeck_same(d:Dk)(w:World) :
  Calls Tryz.prog 48 #[.agg #[I Z d.sh.lo.pos,I Z d.sh.lo.vel,I Z d.sh.lo.door,I Z d.sh.up.pos,I Z d.sh.up.vel,I Z d.sh.up.door,I Z d.sp.l.lo,I Z d.sp.l.hi,I Z d.sp.u.lo,I Z d.sp.u.hi,I Z d.pl,I Z d.pu,.bool d.hd],.agg #[I Z d.sh.lo.pos,I Z d.sh.lo.vel,I Z d.sh.lo.door,I Z d.sh.up.pos,I Z d.sh.up.vel,I Z d.sh.up.door,I Z d.sp.l.lo,I Z d.sp.l.hi,I Z d.sp.u.lo,I Z d.sp.u.hi,I Z d.pl,I Z d.pu,.bool d.hd]] w fun e w'=>e=.returned (.bool true)∧Below w.heap.size w w':=by
 have F0:Hid (Blk ((w.alloc (.cells #[I Z d.sh.lo.pos,I Z d.sh.lo.vel,I Z d.sh.lo.door,I Z d.sh.up.pos,I Z d.sh.up.vel,I Z d.sh.up.door,I Z d.sp.l.lo,I Z d.sp.l.hi,I Z d.sp.u.lo,I Z d.sp.u.hi,I Z d.pl,I Z d.pu,.bool d.hd] 73)).alloc (.cells #[I Z d.sh.lo.pos,I Z d.sh.lo.vel,I Z d.sh.lo.door,I Z d.sh.up.pos,I Z d.sh.up.vel,I Z d.sh.up.door,I Z d.sp.l.lo,I Z d.sp.l.hi,I Z d.sp.u.lo,I Z d.sp.u.hi,I Z d.pl,I Z d.pu,.bool d.hd] 73)) w.heap.size (cellsD d)):=(Blk.at_ w #[I Z d.sh.lo.pos,I Z d.sh.lo.vel,I Z d.sh.lo.door,I Z d.sh.up.pos,I Z d.sh.up.vel,I Z d.sh.up.door,I Z d.sp.l.lo,I Z d.sp.l.hi,I Z d.sp.u.lo,I Z d.sp.u.hi,I Z d.pl,I Z d.pu,.bool d.hd] _ _ rfl).alloc _
 have F1:Hid (Blk ((w.alloc (.cells #[I Z d.sh.lo.pos,I Z d.sh.lo.vel,I Z d.sh.lo.door,I Z d.sh.up.pos,I Z d.sh.up.vel,I Z d.sh.up.door,I Z d.sp.l.lo,I Z d.sp.l.hi,I Z d.sp.u.lo,I Z d.sp.u.hi,I Z d.pl,I Z d.pu,.bool d.hd] 73)).alloc (.cells #[I Z d.sh.lo.pos,I Z d.sh.lo.vel,I Z d.sh.lo.door,I Z d.sh.up.pos,I Z d.sh.up.vel,I Z d.sh.up.door,I Z d.sp.l.lo,I Z d.sp.l.hi,I Z d.sp.u.lo,I Z d.sp.u.hi,I Z d.pl,I Z d.pu,.bool d.hd] 73)) (w.heap.size + 1) (cellsD d)):=Blk.at_ _ #[I Z d.sh.lo.pos,I Z d.sh.lo.vel,I Z d.sh.lo.door,I Z d.sh.up.pos,I Z d.sh.up.vel,I Z d.sh.up.door,I Z d.sp.l.lo,I Z d.sp.l.hi,I Z d.sp.u.lo,I Z d.sp.u.hi,I Z d.pl,I Z d.pu,.bool d.hd] _ _ (by simp)
 have FB:Hid (Below w.heap.size w ((w.alloc (.cells #[I Z d.sh.lo.pos,I Z d.sh.lo.vel,I Z d.sh.lo.door,I Z d.sh.up.pos,I Z d.sh.up.vel,I Z d.sh.up.door,I Z d.sp.l.lo,I Z d.sp.l.hi,I Z d.sp.u.lo,I Z d.sp.u.hi,I Z d.pl,I Z d.pu,.bool d.hd] 73)).alloc (.cells #[I Z d.sh.lo.pos,I Z d.sh.lo.vel,I Z d.sh.lo.door,I Z d.sh.up.pos,I Z d.sh.up.vel,I Z d.sh.up.door,I Z d.sp.l.lo,I Z d.sp.l.hi,I Z d.sp.u.lo,I Z d.sp.u.hi,I Z d.pl,I Z d.pu,.bool d.hd] 73))):=((Below.refl _ _).alloc (Nat.le_refl _) _).alloc (by simp) _
 obtain ⟨W0,hW0⟩:∃ W0,W0=((w.alloc (.cells #[I Z d.sh.lo.pos,I Z d.sh.lo.vel,I Z d.sh.lo.door,I Z d.sh.up.pos,I Z d.sh.up.vel,I Z d.sh.up.door,I Z d.sp.l.lo,I Z d.sp.l.hi,I Z d.sp.u.lo,I Z d.sp.u.hi,I Z d.pl,I Z d.pu,.bool d.hd] 73)).alloc (.cells #[I Z d.sh.lo.pos,I Z d.sh.lo.vel,I Z d.sh.lo.door,I Z d.sh.up.pos,I Z d.sh.up.vel,I Z d.sh.up.door,I Z d.sp.l.lo,I Z d.sp.l.hi,I Z d.sp.u.lo,I Z d.sp.u.hi,I Z d.pl,I Z d.pu,.bool d.hd] 73)):=⟨_,rfl⟩
 rw [← hW0] at F0 F1 FB
 have HW0:=zH hW0
 clear hW0
 go_enter Tryz.func48,Tryz.ntmps48
 go_upto_region 1 with fail
 rw [← HW0.out]
 clear HW0
 obtain ⟨x0,x1,x2,x3,x4,x5,x6,x7,x8,x9,x10,x11,x12⟩:=F0.out.c13
 obtain ⟨y0,y1,y2,y3,y4,y5,y6,y7,y8,y9,y10,y11,y12⟩:=F1.out.c13
 go_wp2_with (first | (go_at_call 96;refine (eqShaft_same d.sh _).mono ?_;rintro e w1 ⟨rfl,hb⟩;have F0:=zH (F0.out.below hb F0.out.lt);have F1:=zH (F1.out.below hb F1.out.lt);have FB:=tB FB hb;clear hb;obtain ⟨x0,x1,x2,x3,x4,x5,x6,x7,x8,x9,x10,x11,x12⟩:=F0.out.c13;obtain ⟨y0,y1,y2,y3,y4,y5,y6,y7,y8,y9,y10,y11,y12⟩:=F1.out.c13) | (go_at_call 97;refine (eqSpans_same d.sp _).mono ?_;rintro e w1 ⟨rfl,hb⟩;have F0:=zH (F0.out.below hb F0.out.lt);have F1:=zH (F1.out.below hb F1.out.lt);have FB:=tB FB hb;clear hb;obtain ⟨x0,x1,x2,x3,x4,x5,x6,x7,x8,x9,x10,x11,x12⟩:=F0.out.c13;obtain ⟨y0,y1,y2,y3,y4,y5,y6,y7,y8,y9,y10,y11,y12⟩:=F1.out.c13))
 go_ret
 exact ⟨rfl,FB.out⟩
theorem eqDeckS_same(a a':Option Addr)(cap cap':Nat)(l:List Dk)(hl:l.length≤1048576)(w:World)(h0:DIn w w.heap.size a l)(h1:DIn w w.heap.size a' l) :
  Calls Tryz.prog 27 #[.slice a l.length cap,.slice a' l.length cap'] w fun e w'=>e=.returned (.bool true)∧Below w.heap.size w w':=by
 have H0:=zH h0
 have H1:=zH h1
 clear h0 h1
 go_enter Tryz.func27,Tryz.ntmps27
 go_wp2_with fail
 go_loopw [5] (fun ii wr=>∃ i:Nat,ii=I Z i∧i≤l.length∧Below w.heap.size w wr) (fun ii _=>l.length - (intOf ii).toNat)
 case atStart=>exact ⟨0,rfl,by omega,Below.refl _ _⟩
 case round=>
  obtain ⟨i,rfl,hi,hb⟩:=hrel
  have FB:=zH hb
  by_cases hlt:i < l.length
  ·obtain ⟨p,hp⟩:∃ p,l[i]? = some p:=⟨_,List.getElem?_eq_getElem hlt⟩
   rcases H0.out with h0 | ⟨b,o,rfl,hbl,h13⟩
   ·rw [h0] at hlt;simp at hlt
   rcases H1.out with h0 | ⟨b',o',rfl,hbl',h13'⟩
   ·rw [h0] at hlt;simp at hlt
   have F0:Hid (D13 wr b (o + i * 13) p):=(h13 i p hp).below hb hbl
   have F1:Hid (D13 wr b' (o' + i * 13) p):=(h13' i p hp).below hb hbl'
   clear hp h13 h13' hb
   go_wp2_with fail
   have F0:=zH (F0.out.below (Below.refl _ _).drew F0.out.lt)
   have F1:=zH (F1.out.below (Below.refl _ _).drew F1.out.lt)
   have FB:=zH (FB.out.drew)
   have m0:=F0.out.c0
   have m1:=F0.out.c1
   have m2:=F0.out.c2
   have m3:=F0.out.c3
   have m4:=F0.out.c4
   have m5:=F0.out.c5
   have m6:=F0.out.c6
   have m7:=F0.out.c7
   have m8:=F0.out.c8
   have m9:=F0.out.c9
   have m10:=F0.out.c10
   have m11:=F0.out.c11
   have m12:=F0.out.c12
   have n0:=F1.out.c0
   have n1:=F1.out.c1
   have n2:=F1.out.c2
   have n3:=F1.out.c3
   have n4:=F1.out.c4
   have n5:=F1.out.c5
   have n6:=F1.out.c6
   have n7:=F1.out.c7
   have n8:=F1.out.c8
   have n9:=F1.out.c9
   have n10:=F1.out.c10
   have n11:=F1.out.c11
   have n12:=F1.out.c12
   refine wp_region_held_drew (S:=(fun w''=>w''.cell? ⟨b,o + i * 13,none⟩=some (I Z p.sh.lo.pos)∧w''.cell? ⟨b,o + i * 13 + 1,none⟩=some (I Z p.sh.lo.vel)∧w''.cell? ⟨b,o + i * 13 + 2,none⟩=some (I Z p.sh.lo.door)∧w''.cell? ⟨b,o + i * 13 + 3,none⟩=some (I Z p.sh.up.pos)∧w''.cell? ⟨b,o + i * 13 + 4,none⟩=some (I Z p.sh.up.vel)∧w''.cell? ⟨b,o + i * 13 + 5,none⟩=some (I Z p.sh.up.door)∧w''.cell? ⟨b,o + i * 13 + 6,none⟩=some (I Z p.sp.l.lo)∧w''.cell? ⟨b,o + i * 13 + 7,none⟩=some (I Z p.sp.l.hi)∧w''.cell? ⟨b,o + i * 13 + 8,none⟩=some (I Z p.sp.u.lo)∧w''.cell? ⟨b,o + i * 13 + 9,none⟩=some (I Z p.sp.u.hi)∧w''.cell? ⟨b,o + i * 13 + 10,none⟩=some (I Z p.pl)∧w''.cell? ⟨b,o + i * 13 + 11,none⟩=some (I Z p.pu)∧w''.cell? ⟨b,o + i * 13 + 12,none⟩=some (.bool p.hd)∧w''.cell? ⟨b',o' + i * 13,none⟩=some (I Z p.sh.lo.pos)∧w''.cell? ⟨b',o' + i * 13 + 1,none⟩=some (I Z p.sh.lo.vel)∧w''.cell? ⟨b',o' + i * 13 + 2,none⟩=some (I Z p.sh.lo.door)∧w''.cell? ⟨b',o' + i * 13 + 3,none⟩=some (I Z p.sh.up.pos)∧w''.cell? ⟨b',o' + i * 13 + 4,none⟩=some (I Z p.sh.up.vel)∧w''.cell? ⟨b',o' + i * 13 + 5,none⟩=some (I Z p.sh.up.door)∧w''.cell? ⟨b',o' + i * 13 + 6,none⟩=some (I Z p.sp.l.lo)∧w''.cell? ⟨b',o' + i * 13 + 7,none⟩=some (I Z p.sp.l.hi)∧w''.cell? ⟨b',o' + i * 13 + 8,none⟩=some (I Z p.sp.u.lo)∧w''.cell? ⟨b',o' + i * 13 + 9,none⟩=some (I Z p.sp.u.hi)∧w''.cell? ⟨b',o' + i * 13 + 10,none⟩=some (I Z p.pl)∧w''.cell? ⟨b',o' + i * 13 + 11,none⟩=some (I Z p.pu)∧w''.cell? ⟨b',o' + i * 13 + 12,none⟩=some (.bool p.hd))) (by kernel_rfl) (by (try dsimp only);first | exact ⟨m0,m1,m2,m3,m4,m5,m6,m7,m8,m9,m10,m11,m12,n0,n1,n2,n3,n4,n5,n6,n7,n8,n9,n10,n11,n12⟩ | go_keep) (fun hHeld=>?_)
   obtain ⟨v_1,hw1⟩:∃ v_1,v_1=wr.drew:=⟨_,rfl⟩
   rw [← hw1] at F0 F1 FB hHeld ⊢
   clear hw1
   have m0:=F0.out.c0
   have m1:=F0.out.c1
   have m2:=F0.out.c2
   have m3:=F0.out.c3
   have m4:=F0.out.c4
   have m5:=F0.out.c5
   have m6:=F0.out.c6
   have m7:=F0.out.c7
   have m8:=F0.out.c8
   have m9:=F0.out.c9
   have m10:=F0.out.c10
   have m11:=F0.out.c11
   have m12:=F0.out.c12
   have n0:=F1.out.c0
   have n1:=F1.out.c1
   have n2:=F1.out.c2
   have n3:=F1.out.c3
   have n4:=F1.out.c4
   have n5:=F1.out.c5
   have n6:=F1.out.c6
   have n7:=F1.out.c7
   have n8:=F1.out.c8
   have n9:=F1.out.c9
   have n10:=F1.out.c10
   have n11:=F1.out.c11
   have n12:=F1.out.c12
   refine tkz 0 rfl ?_
   refine tkz 1 rfl ?_
   refine tkz 2 rfl ?_
   refine tkz 3 rfl ?_
   refine tkz 4 rfl ?_
   refine tkz 5 rfl ?_
   refine tkz 6 rfl ?_
   refine tkz 7 rfl ?_
   refine rd1 8 (fun K hK=>?_)
   go_simp
   refine (eqDeck_same p _).mono ?_
   rintro e v_2 ⟨rfl,hb⟩
   have F0:=zH (F0.out.below hb F0.out.lt)
   have F1:=zH (F1.out.below hb F1.out.lt)
   have FB:=tB FB hb
   clear hb
   have m0:=F0.out.c0
   have m1:=F0.out.c1
   have m2:=F0.out.c2
   have m3:=F0.out.c3
   have m4:=F0.out.c4
   have m5:=F0.out.c5
   have m6:=F0.out.c6
   have m7:=F0.out.c7
   have m8:=F0.out.c8
   have m9:=F0.out.c9
   have m10:=F0.out.c10
   have m11:=F0.out.c11
   have m12:=F0.out.c12
   have n0:=F1.out.c0
   have n1:=F1.out.c1
   have n2:=F1.out.c2
   have n3:=F1.out.c3
   have n4:=F1.out.c4
   have n5:=F1.out.c5
   have n6:=F1.out.c6
   have n7:=F1.out.c7
   have n8:=F1.out.c8
   have n9:=F1.out.c9
   have n10:=F1.out.c10
   have n11:=F1.out.c11
   have n12:=F1.out.c12
   try dsimp only
   refine kp hK (fun hHeld=>?_)
   clear hK K
   refine tkz 9 rfl ?_
   refine wpAnyH_done (by kernel_rfl) ?_ _
   go_wp2_with fail
   go_roundw
   case rel=>exact ⟨i + 1,by simp,by omega,FB.out⟩
   case measure=>simp [intOf];omega
  ·have ei:i=l.length:=by omega
   subst ei
   clear hb
   go_wp2_with fail
   go_ret
   exact ⟨rfl,FB.out⟩
theorem eqGroup_same(h:Hs)(ds:List Dk)(da da':Option Addr)(dc dc':Nat)(nx:Int)(ps:List Pe)(pa pa':Option Addr)(pc pc':Nat)(tk:Int)(rc:Bool)(hld:ds.length≤1048576)(hlp:ps.length≤1048576)(w:World)
  (hD:DIn w w.heap.size da ds) (hD':DIn w w.heap.size da' ds) (hP:PIn w w.heap.size pa ps) (hP':PIn w w.heap.size pa' ps) :
  Calls Tryz.prog 9 #[.agg #[I Z h.fl,I Z h.gp,I Z h.ln,I Z h.rf,I Z h.sp,I Z h.pu,I Z h.br,I Z h.dr,I Z h.lv,I Z h.dO,I Z h.ld,I Z h.qu,.slice da ds.length dc,I Z nx,.slice pa ps.length pc,I Z tk,.bool rc],.agg #[I Z h.fl,I Z h.gp,I Z h.ln,I Z h.rf,I Z h.sp,I Z h.pu,I Z h.br,I Z h.dr,I Z h.lv,I Z h.dO,I Z h.ld,I Z h.qu,.slice da' ds.length dc',I Z nx,.slice pa' ps.length pc',I Z tk,.bool rc]] w fun e w'=>e=.returned (.bool true)∧Below w.heap.size w w':=by
 have HD:=zH hD
 have HE:Hid (DIn w w.heap.size da' ds):=hD'
 have HP:=zH hP
 have HQ:Hid (PIn w w.heap.size pa' ps):=hP'
 clear hD hD' hP hP'
 have F0:Hid (Blk ((w.alloc (.cells #[I Z h.fl,I Z h.gp,I Z h.ln,I Z h.rf,I Z h.sp,I Z h.pu,I Z h.br,I Z h.dr,I Z h.lv,I Z h.dO,I Z h.ld,I Z h.qu,.slice da ds.length dc,I Z nx,.slice pa ps.length pc,I Z tk,.bool rc] 37)).alloc (.cells #[I Z h.fl,I Z h.gp,I Z h.ln,I Z h.rf,I Z h.sp,I Z h.pu,I Z h.br,I Z h.dr,I Z h.lv,I Z h.dO,I Z h.ld,I Z h.qu,.slice da' ds.length dc',I Z nx,.slice pa' ps.length pc',I Z tk,.bool rc] 37)) w.heap.size (gvs h (.slice da ds.length dc) nx (.slice pa ps.length pc) tk rc)):=(Blk.at_ w #[I Z h.fl,I Z h.gp,I Z h.ln,I Z h.rf,I Z h.sp,I Z h.pu,I Z h.br,I Z h.dr,I Z h.lv,I Z h.dO,I Z h.ld,I Z h.qu,.slice da ds.length dc,I Z nx,.slice pa ps.length pc,I Z tk,.bool rc] _ _ rfl).alloc _
 have F1:Hid (Blk ((w.alloc (.cells #[I Z h.fl,I Z h.gp,I Z h.ln,I Z h.rf,I Z h.sp,I Z h.pu,I Z h.br,I Z h.dr,I Z h.lv,I Z h.dO,I Z h.ld,I Z h.qu,.slice da ds.length dc,I Z nx,.slice pa ps.length pc,I Z tk,.bool rc] 37)).alloc (.cells #[I Z h.fl,I Z h.gp,I Z h.ln,I Z h.rf,I Z h.sp,I Z h.pu,I Z h.br,I Z h.dr,I Z h.lv,I Z h.dO,I Z h.ld,I Z h.qu,.slice da' ds.length dc',I Z nx,.slice pa' ps.length pc',I Z tk,.bool rc] 37)) (w.heap.size + 1) (gvs h (.slice da' ds.length dc') nx (.slice pa' ps.length pc') tk rc)):=Blk.at_ _ #[I Z h.fl,I Z h.gp,I Z h.ln,I Z h.rf,I Z h.sp,I Z h.pu,I Z h.br,I Z h.dr,I Z h.lv,I Z h.dO,I Z h.ld,I Z h.qu,.slice da' ds.length dc',I Z nx,.slice pa' ps.length pc',I Z tk,.bool rc] _ _ (by simp)
 have FB:Hid (Below w.heap.size w ((w.alloc (.cells #[I Z h.fl,I Z h.gp,I Z h.ln,I Z h.rf,I Z h.sp,I Z h.pu,I Z h.br,I Z h.dr,I Z h.lv,I Z h.dO,I Z h.ld,I Z h.qu,.slice da ds.length dc,I Z nx,.slice pa ps.length pc,I Z tk,.bool rc] 37)).alloc (.cells #[I Z h.fl,I Z h.gp,I Z h.ln,I Z h.rf,I Z h.sp,I Z h.pu,I Z h.br,I Z h.dr,I Z h.lv,I Z h.dO,I Z h.ld,I Z h.qu,.slice da' ds.length dc',I Z nx,.slice pa' ps.length pc',I Z tk,.bool rc] 37))):=((Below.refl _ _).alloc (Nat.le_refl _) _).alloc (by simp) _
 obtain ⟨W0,hW0⟩:∃ W0,W0=((w.alloc (.cells #[I Z h.fl,I Z h.gp,I Z h.ln,I Z h.rf,I Z h.sp,I Z h.pu,I Z h.br,I Z h.dr,I Z h.lv,I Z h.dO,I Z h.ld,I Z h.qu,.slice da ds.length dc,I Z nx,.slice pa ps.length pc,I Z tk,.bool rc] 37)).alloc (.cells #[I Z h.fl,I Z h.gp,I Z h.ln,I Z h.rf,I Z h.sp,I Z h.pu,I Z h.br,I Z h.dr,I Z h.lv,I Z h.dO,I Z h.ld,I Z h.qu,.slice da' ds.length dc',I Z nx,.slice pa' ps.length pc',I Z tk,.bool rc] 37)):=⟨_,rfl⟩
 rw [← hW0] at F0 F1 FB
 have HW0:=zH hW0
 clear hW0
 go_enter Tryz.func9,Tryz.ntmps9
 go_upto_region 1 with fail
 rw [← HW0.out]
 clear HW0
 obtain ⟨x0,x1,x2,x3,x4,x5,x6,x7,x8,x9,x10,x11,x12,x13,x14,x15,x16⟩:=F0.out.c17
 obtain ⟨y0,y1,y2,y3,y4,y5,y6,y7,y8,y9,y10,y11,y12,y13,y14,y15,y16⟩:=F1.out.c17
 go_wp2_with (first | (go_at_call 26;refine (eqHouse_same h _).mono ?_;rintro e w1 ⟨rfl,hb⟩;have F0:=zH (F0.out.below hb F0.out.lt);have F1:=zH (F1.out.below hb F1.out.lt);have FB:=tB FB hb;clear hb;obtain ⟨x0,x1,x2,x3,x4,x5,x6,x7,x8,x9,x10,x11,x12,x13,x14,x15,x16⟩:=F0.out.c17;obtain ⟨y0,y1,y2,y3,y4,y5,y6,y7,y8,y9,y10,y11,y12,y13,y14,y15,y16⟩:=F1.out.c17) | (go_at_call 27;refine (eqDeckS_same da da' dc dc' ds hld _ ((HD.out.below FB.out (Nat.le_refl _)).mono FB.out.size) ((HE.out.below FB.out (Nat.le_refl _)).mono FB.out.size)).mono ?_;rintro e w1 ⟨rfl,hb⟩;have F0:=zH (F0.out.below hb F0.out.lt);have F1:=zH (F1.out.below hb F1.out.lt);have FB:=tB FB hb;clear hb;obtain ⟨x0,x1,x2,x3,x4,x5,x6,x7,x8,x9,x10,x11,x12,x13,x14,x15,x16⟩:=F0.out.c17;obtain ⟨y0,y1,y2,y3,y4,y5,y6,y7,y8,y9,y10,y11,y12,y13,y14,y15,y16⟩:=F1.out.c17) | (go_at_call 28;refine (eqLedger_same nx pa pa' pc pc' ps hlp _ ((HP.out.below FB.out (Nat.le_refl _)).mono FB.out.size) ((HQ.out.below FB.out (Nat.le_refl _)).mono FB.out.size)).mono ?_;rintro e w1 ⟨rfl,hb⟩;have F0:=zH (F0.out.below hb F0.out.lt);have F1:=zH (F1.out.below hb F1.out.lt);have FB:=tB FB hb;clear hb;obtain ⟨x0,x1,x2,x3,x4,x5,x6,x7,x8,x9,x10,x11,x12,x13,x14,x15,x16⟩:=F0.out.c17;obtain ⟨y0,y1,y2,y3,y4,y5,y6,y7,y8,y9,y10,y11,y12,y13,y14,y15,y16⟩:=F1.out.c17))
 go_ret
 exact ⟨rfl,FB.out⟩
end Go.Proofs.YteimojoicfjdjaaGreat
