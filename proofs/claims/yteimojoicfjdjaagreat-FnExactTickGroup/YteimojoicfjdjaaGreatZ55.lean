/- Parts of the proof: XTh. -/
import Derived.Test.YteimojoicfjdjaaGreatZ42
import Derived.Test.YteimojoicfjdjaaGreatZ51
import Derived.Test.YteimojoicfjdjaaGreatZ54
import Derived.BigGuardPart
namespace Go.Proofs.YteimojoicfjdjaaGreat
set_option maxRecDepth 20000
set_option maxHeartbeats 32000000
open Value renaming int → I
open IntKind renaming i64 → Z
open Go.RowKit Pl
set_option linter.unusedSimpArgs false
set_option linter.unusedVariables false
theorem implTickGroup_no(h:Hs)(ds:List Dk)(gd dc:Nat)(nx:Int)(ps:List Pe)(gp pc:Nat)(tk:Int)(rc:Bool)(dl du:Int)(hf:Gr.fault ⟨h,ds,⟨nx,ps⟩,tk,rc⟩ ≠ 0)(hld:ds.length≤1048576)(hlp:ps.length≤1048576)(w:World)(hI:GI w gd gp ds ps):Calls Tryz.prog 7 #[.agg #[I Z h.fl,I Z h.gp,I Z h.ln,I Z h.rf,I Z h.sp,I Z h.pu,I Z h.br,I Z h.dr,I Z h.lv,I Z h.dO,I Z h.ld,I Z h.qu,.slice (some ⟨gd,0,none⟩) ds.length dc,I Z nx,.slice (some ⟨gp,0,none⟩) ps.length pc,I Z tk,.bool rc],I Z dl,I Z du] w (isGrp w (Gr.fault ⟨h,ds,⟨nx,ps⟩,tk,rc⟩) 0 zeroH [] 0 [] 0 false):=by
 have hn:(Gr.fault ⟨h,ds,⟨nx,ps⟩,tk,rc⟩ != 0)=true:=by simpa using hf
 clear hf
 obtain ⟨W0,hW0,f0,f1,fb,fi⟩:=two_out h ds gd dc nx ps gp pc tk rc w hI
 have HW0:=zH hW0
 have F0:=zH f0
 have F1:=zH f1
 have FB:=zH fb
 have FI:=zH fi
 have LI:Hid (gd < w.heap.size∧gp < w.heap.size):=⟨hI.ld,hI.lp⟩
 clear hW0 f0 f1 fb fi hI
 go_enter Tryz.func7,Tryz.ntmps7
 go_upto_region 1 with fail
 rw [← HW0.out]
 go_wp2_with (first | (refine load_blk 37 _ Tryz.underlying37 (by kernel_rfl) F0.out rfl rfl rfl ?_) | (go_at_call 22;refine (implGroupFault_any h ds (some ⟨gd,0,none⟩) dc nx ps (some ⟨gp,0,none⟩) pc tk rc hld hlp _ FI.out.din FI.out.pin).mono ?_;rintro e w1 ⟨rfl,hb⟩;have F0:=bB F0 hb;have F1:=bB F1 hb;have FI:Hid (GI w1 gd gp ds ps):=FI.out.below hb FI.out.ld FI.out.lp;have FB:=tB FB hb;clear hb) | (refine store_blk ([I Z (Gr.fault ⟨h,ds,⟨nx,ps⟩,tk,rc⟩),I Z 0,I Z 0,I Z 0,I Z 0,I Z 0,I Z 0,I Z 0,I Z 0,I Z 0,I Z 0,I Z 0,I Z 0,I Z 0,.slice none 0 0,I Z 0,.slice none 0 0,I Z 0,.bool false]) 39 _ _ (by kernel_rfl) (by kernel_rfl) (by kernel_rfl) F1.out rfl rfl rfl rfl ?_))
 exact bodyPost_ret (v:=.agg #[I Z (Gr.fault ⟨h,ds,⟨nx,ps⟩,tk,rc⟩),I Z 0,I Z 0,I Z 0,I Z 0,I Z 0,I Z 0,I Z 0,I Z 0,I Z 0,I Z 0,I Z 0,I Z 0,I Z 0,.slice none 0 0,I Z 0,.slice none 0 0,I Z 0,.bool false]) ((F1.out.row [I Z (Gr.fault ⟨h,ds,⟨nx,ps⟩,tk,rc⟩),I Z 0,I Z 0,I Z 0,I Z 0,I Z 0,I Z 0,I Z 0,I Z 0,I Z 0,I Z 0,I Z 0,I Z 0,I Z 0,.slice none 0 0,I Z 0,.slice none 0 0,I Z 0,.bool false]).res _ Tryz.results7 Tryz.underlying39 (by kernel_rfl) rfl) rfl (isGrp.no (below_row FB.out (by omega) _))
theorem implTickGroup_far(h:Hs)(ds:List Dk)(gd dc:Nat)(nx:Int)(ps:List Pe)(gp pc:Nat)(tk:Int)(rc:Bool)(dl du:Int)(hf:Gr.fault ⟨h,ds,⟨nx,ps⟩,tk,rc⟩=0)(i1:inB dl (-h.dr) h.dr=false)(hld:ds.length≤1048576)(hlp:ps.length≤1048576)(w:World)(hI:GI w gd gp ds ps):Calls Tryz.prog 7 #[.agg #[I Z h.fl,I Z h.gp,I Z h.ln,I Z h.rf,I Z h.sp,I Z h.pu,I Z h.br,I Z h.dr,I Z h.lv,I Z h.dO,I Z h.ld,I Z h.qu,.slice (some ⟨gd,0,none⟩) ds.length dc,I Z nx,.slice (some ⟨gp,0,none⟩) ps.length pc,I Z tk,.bool rc],I Z dl,I Z du] w (isGrp w 3 0 zeroH [] 0 [] 0 false):=by
 have gfp:=Gr.fault_parts hf
 obtain ⟨wn,d0⟩:=drift_in gfp.1
 clear gfp
 obtain ⟨W0,hW0,f0,f1,fb,fi⟩:=two_out h ds gd dc nx ps gp pc tk rc w hI
 have HW0:=zH hW0
 have F0:=zH f0
 have F1:=zH f1
 have FB:=zH fb
 have FI:=zH fi
 have LI:Hid (gd < w.heap.size∧gp < w.heap.size):=⟨hI.ld,hI.lp⟩
 clear hW0 f0 f1 fb fi hI
 go_enter Tryz.func7,Tryz.ntmps7
 go_upto_region 1 with fail
 rw [← HW0.out]
 clear HW0
 go_upto_region 4 with (first | (refine load_blk 37 _ Tryz.underlying37 (by kernel_rfl) F0.out rfl rfl rfl ?_) | (go_at_call 22;refine (implGroupFault_any h ds (some ⟨gd,0,none⟩) dc nx ps (some ⟨gp,0,none⟩) pc tk rc hld hlp _ FI.out.din FI.out.pin).mono ?_;rw [hf];rintro e w1 ⟨rfl,hb⟩;have F0:=bB F0 hb;have F1:=bB F1 hb;have FI:Hid (GI w1 gd gp ds ps):=FI.out.below hb FI.out.ld FI.out.lp;have FB:=tB FB hb;clear hb))
 have x7:=F0.out.c 7 _ rfl
 have x15:=F0.out.c 15 _ rfl
 go_wp2_with (first | (go_at_call 23;refine (isWithin_any _ _ _ _).mono ?_;(first | rw [i1] | rw [i2]);rintro e w' ⟨rfl,hw⟩;obtain rfl:=hw.symm;clear hw) | (refine store_blk ([I Z 3,I Z 0,I Z 0,I Z 0,I Z 0,I Z 0,I Z 0,I Z 0,I Z 0,I Z 0,I Z 0,I Z 0,I Z 0,I Z 0,.slice none 0 0,I Z 0,.slice none 0 0,I Z 0,.bool false]) 39 _ _ (by kernel_rfl) (by kernel_rfl) (by kernel_rfl) F1.out rfl rfl rfl rfl ?_))
 exact bodyPost_ret (v:=.agg #[I Z 3,I Z 0,I Z 0,I Z 0,I Z 0,I Z 0,I Z 0,I Z 0,I Z 0,I Z 0,I Z 0,I Z 0,I Z 0,I Z 0,.slice none 0 0,I Z 0,.slice none 0 0,I Z 0,.bool false]) ((F1.out.row [I Z 3,I Z 0,I Z 0,I Z 0,I Z 0,I Z 0,I Z 0,I Z 0,I Z 0,I Z 0,I Z 0,I Z 0,I Z 0,I Z 0,.slice none 0 0,I Z 0,.slice none 0 0,I Z 0,.bool false]).res _ Tryz.results7 Tryz.underlying39 (by kernel_rfl) rfl) rfl (isGrp.no (below_row FB.out (by omega) _))
theorem implTickGroup_far2(h:Hs)(ds:List Dk)(gd dc:Nat)(nx:Int)(ps:List Pe)(gp pc:Nat)(tk:Int)(rc:Bool)(dl du:Int)(hf:Gr.fault ⟨h,ds,⟨nx,ps⟩,tk,rc⟩=0)(i1:inB dl (-h.dr) h.dr=true)(i2:inB du (-h.dr) h.dr=false)(hld:ds.length≤1048576)(hlp:ps.length≤1048576)(w:World)(hI:GI w gd gp ds ps):Calls Tryz.prog 7 #[.agg #[I Z h.fl,I Z h.gp,I Z h.ln,I Z h.rf,I Z h.sp,I Z h.pu,I Z h.br,I Z h.dr,I Z h.lv,I Z h.dO,I Z h.ld,I Z h.qu,.slice (some ⟨gd,0,none⟩) ds.length dc,I Z nx,.slice (some ⟨gp,0,none⟩) ps.length pc,I Z tk,.bool rc],I Z dl,I Z du] w (isGrp w 3 0 zeroH [] 0 [] 0 false):=by
 have gfp:=Gr.fault_parts hf
 obtain ⟨wn,d0⟩:=drift_in gfp.1
 clear gfp
 obtain ⟨W0,hW0,f0,f1,fb,fi⟩:=two_out h ds gd dc nx ps gp pc tk rc w hI
 have HW0:=zH hW0
 have F0:=zH f0
 have F1:=zH f1
 have FB:=zH fb
 have FI:=zH fi
 have LI:Hid (gd < w.heap.size∧gp < w.heap.size):=⟨hI.ld,hI.lp⟩
 clear hW0 f0 f1 fb fi hI
 go_enter Tryz.func7,Tryz.ntmps7
 go_upto_region 1 with fail
 rw [← HW0.out]
 clear HW0
 go_upto_region 4 with (first | (refine load_blk 37 _ Tryz.underlying37 (by kernel_rfl) F0.out rfl rfl rfl ?_) | (go_at_call 22;refine (implGroupFault_any h ds (some ⟨gd,0,none⟩) dc nx ps (some ⟨gp,0,none⟩) pc tk rc hld hlp _ FI.out.din FI.out.pin).mono ?_;rw [hf];rintro e w1 ⟨rfl,hb⟩;have F0:=bB F0 hb;have F1:=bB F1 hb;have FI:Hid (GI w1 gd gp ds ps):=FI.out.below hb FI.out.ld FI.out.lp;have FB:=tB FB hb;clear hb))
 have x7:=F0.out.c 7 _ rfl
 have x15:=F0.out.c 15 _ rfl
 go_wp2_with (first | (go_at_call 23;refine (isWithin_any _ _ _ _).mono ?_;(first | rw [i1] | rw [i2]);rintro e w' ⟨rfl,hw⟩;obtain rfl:=hw.symm;clear hw) | (refine store_blk ([I Z 3,I Z 0,I Z 0,I Z 0,I Z 0,I Z 0,I Z 0,I Z 0,I Z 0,I Z 0,I Z 0,I Z 0,I Z 0,I Z 0,.slice none 0 0,I Z 0,.slice none 0 0,I Z 0,.bool false]) 39 _ _ (by kernel_rfl) (by kernel_rfl) (by kernel_rfl) F1.out rfl rfl rfl rfl ?_))
 exact bodyPost_ret (v:=.agg #[I Z 3,I Z 0,I Z 0,I Z 0,I Z 0,I Z 0,I Z 0,I Z 0,I Z 0,I Z 0,I Z 0,I Z 0,I Z 0,I Z 0,.slice none 0 0,I Z 0,.slice none 0 0,I Z 0,.bool false]) ((F1.out.row [I Z 3,I Z 0,I Z 0,I Z 0,I Z 0,I Z 0,I Z 0,I Z 0,I Z 0,I Z 0,I Z 0,I Z 0,I Z 0,I Z 0,.slice none 0 0,I Z 0,.slice none 0 0,I Z 0,.bool false]).res _ Tryz.results7 Tryz.underlying39 (by kernel_rfl) rfl) rfl (isGrp.no (below_row FB.out (by omega) _))
theorem implTickGroup_many(h:Hs)(ds:List Dk)(gd dc:Nat)(nx:Int)(ps:List Pe)(gp pc:Nat)(tk:Int)(rc:Bool)(dl du:Int)(hf:Gr.fault ⟨h,ds,⟨nx,ps⟩,tk,rc⟩=0)(i1:inB dl (-h.dr) h.dr=true)(i2:inB du (-h.dr) h.dr=true)(ht:tk=1000000000000000)(hld:ds.length≤1048576)(hlp:ps.length≤1048576)(w:World)(hI:GI w gd gp ds ps):Calls Tryz.prog 7 #[.agg #[I Z h.fl,I Z h.gp,I Z h.ln,I Z h.rf,I Z h.sp,I Z h.pu,I Z h.br,I Z h.dr,I Z h.lv,I Z h.dO,I Z h.ld,I Z h.qu,.slice (some ⟨gd,0,none⟩) ds.length dc,I Z nx,.slice (some ⟨gp,0,none⟩) ps.length pc,I Z tk,.bool rc],I Z dl,I Z du] w (isGrp w 2 0 zeroH [] 0 [] 0 false):=by
 have gfp:=Gr.fault_parts hf
 obtain ⟨wn,d0⟩:=drift_in gfp.1
 clear gfp
 subst ht
 obtain ⟨W0,hW0,f0,f1,fb,fi⟩:=two_out h ds gd dc nx ps gp pc 1000000000000000 rc w hI
 have HW0:=zH hW0
 have F0:=zH f0
 have F1:=zH f1
 have FB:=zH fb
 have FI:=zH fi
 have LI:Hid (gd < w.heap.size∧gp < w.heap.size):=⟨hI.ld,hI.lp⟩
 clear hW0 f0 f1 fb fi hI
 go_enter Tryz.func7,Tryz.ntmps7
 go_upto_region 1 with fail
 rw [← HW0.out]
 clear HW0
 go_upto_region 4 with (first | (refine load_blk 37 _ Tryz.underlying37 (by kernel_rfl) F0.out rfl rfl rfl ?_) | (go_at_call 22;refine (implGroupFault_any h ds (some ⟨gd,0,none⟩) dc nx ps (some ⟨gp,0,none⟩) pc 1000000000000000 rc hld hlp _ FI.out.din FI.out.pin).mono ?_;rw [hf];rintro e w1 ⟨rfl,hb⟩;have F0:=bB F0 hb;have F1:=bB F1 hb;have FI:Hid (GI w1 gd gp ds ps):=FI.out.below hb FI.out.ld FI.out.lp;have FB:=tB FB hb;clear hb))
 have x7:=F0.out.c 7 _ rfl
 have x15:=F0.out.c 15 _ rfl
 go_wp2_with (first | (go_at_call 23;refine (isWithin_any _ _ _ _).mono ?_;(first | rw [i1] | rw [i2]);rintro e w' ⟨rfl,hw⟩;obtain rfl:=hw.symm;clear hw) | (refine store_blk ([I Z 2,I Z 0,I Z 0,I Z 0,I Z 0,I Z 0,I Z 0,I Z 0,I Z 0,I Z 0,I Z 0,I Z 0,I Z 0,I Z 0,.slice none 0 0,I Z 0,.slice none 0 0,I Z 0,.bool false]) 39 _ _ (by kernel_rfl) (by kernel_rfl) (by kernel_rfl) F1.out rfl rfl rfl rfl ?_))
 exact bodyPost_ret (v:=.agg #[I Z 2,I Z 0,I Z 0,I Z 0,I Z 0,I Z 0,I Z 0,I Z 0,I Z 0,I Z 0,I Z 0,I Z 0,I Z 0,I Z 0,.slice none 0 0,I Z 0,.slice none 0 0,I Z 0,.bool false]) ((F1.out.row [I Z 2,I Z 0,I Z 0,I Z 0,I Z 0,I Z 0,I Z 0,I Z 0,I Z 0,I Z 0,I Z 0,I Z 0,I Z 0,I Z 0,.slice none 0 0,I Z 0,.slice none 0 0,I Z 0,.bool false]).res _ Tryz.results7 Tryz.underlying39 (by kernel_rfl) rfl) rfl (isGrp.no (below_row FB.out (by omega) _))
theorem implTickGroup_ok(h:Hs)(ds:List Dk)(gd dc:Nat)(nx:Int)(ps:List Pe)(gp pc:Nat)(tk:Int)(rc:Bool)(dl du:Int)(hf:Gr.fault ⟨h,ds,⟨nx,ps⟩,tk,rc⟩=0)(i1:inB dl (-h.dr) h.dr=true)(i2:inB du (-h.dr) h.dr=true)(ht:¬ tk=1000000000000000)(hld:ds.length≤1048576)(hlp:ps.length≤1048576)(w:World)(hI:GI w gd gp ds ps):Calls Tryz.prog 7 #[.agg #[I Z h.fl,I Z h.gp,I Z h.ln,I Z h.rf,I Z h.sp,I Z h.pu,I Z h.br,I Z h.dr,I Z h.lv,I Z h.dO,I Z h.ld,I Z h.qu,.slice (some ⟨gd,0,none⟩) ds.length dc,I Z nx,.slice (some ⟨gp,0,none⟩) ps.length pc,I Z tk,.bool rc],I Z dl,I Z du] w (isGrp w 0 0 h (tk8 h rc dl du (ds,ps) ds.length).1 nx (tk8 h rc dl du (ds,ps) ds.length).2 (tk + 1) rc):=by
 have gfp:=Gr.fault_parts hf
 obtain ⟨wn,d0⟩:=drift_in gfp.1
 have T0:0≤tk:=gfp.2.2.2.2.2.1
 have T1:tk + 1≤1000000000000000:=by have:=gfp.2.2.2.2.2.2;dsimp only at this;omega
 have N3:ds.length≤3:=by have:=gfp.2.1.2;dsimp only at this;omega
 have HA:Hid (awayB ds.length ps=false):=gfp.2.2.2.2.1
 have TO:∀ c c2,TkOk ⟨h,ds.length,c,nx,ps.length,c2,tk,rc⟩ (ds,ps):=fun c c2=>Gr.tkOk hf
 have TT:Hid (0≤tk∧tk + 1≤1000000000000000∧ds.length≤3∧(∀ c c2,TkOk ⟨h,ds.length,c,nx,ps.length,c2,tk,rc⟩ (ds,ps))∧inB dl (-h.dr) h.dr=true∧inB du (-h.dr) h.dr=true∧ps.length≤1048576):=⟨T0,T1,N3,TO,i1,i2,hlp⟩
 clear gfp T0 T1 N3 TO
 obtain ⟨W0,hW0,f0,f1,fb,fi⟩:=two_out h ds gd dc nx ps gp pc tk rc w hI
 have HW0:=zH hW0
 have F0:=zH f0
 have F1:=zH f1
 have FB:=zH fb
 have FI:=zH fi
 have LI:Hid (gd < w.heap.size∧gp < w.heap.size):=⟨hI.ld,hI.lp⟩
 clear hW0 f0 f1 fb fi hI
 go_enter Tryz.func7,Tryz.ntmps7
 go_upto_region 1 with fail
 rw [← HW0.out]
 clear HW0
 go_upto_region 4 with (first | (refine load_blk 37 _ Tryz.underlying37 (by kernel_rfl) F0.out rfl rfl rfl ?_) | (go_at_call 22;refine (implGroupFault_any h ds (some ⟨gd,0,none⟩) dc nx ps (some ⟨gp,0,none⟩) pc tk rc hld hlp _ FI.out.din FI.out.pin).mono ?_;rw [hf];rintro e w1 ⟨rfl,hb⟩;have F0:=bB F0 hb;have F1:=bB F1 hb;have FI:Hid (GI w1 gd gp ds ps):=FI.out.below hb FI.out.ld FI.out.lp;have FB:=tB FB hb;clear hb))
 have x7:=F0.out.c 7 _ rfl
 have x15:=F0.out.c 15 _ rfl
 go_upto_region 8 with (go_at_call 23;refine (isWithin_any _ _ _ _).mono ?_;(first | rw [i1] | rw [i2]);rintro e w' ⟨rfl,hw⟩;obtain rfl:=hw.symm;clear hw)
 clear x7 x15 wn d0 i1 i2
 go_upto_region 9 with (first | (refine load_blk 37 _ Tryz.underlying37 (by kernel_rfl) F0.out rfl rfl rfl ?_) | (go_at_call 24;refine (copiedGroup_any h ds gd dc nx ps gp pc tk rc hld hlp _ FI.out).mono ?_;rintro e w2 ⟨g1,c1,g2,c2,rfl,ho1,ho2,ne12,hb⟩;have q1:=F1.out.lt;have FD:Hid (OwD w2 (w.heap.size + 2) g1 ds.length c1 (ds)):=ho1.base (by omega);have FP:Hid (Ow w2 (w.heap.size + 2) g2 ps.length c2 (ps)):=ho2.base (by omega);have F0:=bB F0 hb;have F1:=bB F1 hb;have FI:Hid (GI w2 gd gp ds ps):=FI.out.below hb FI.out.ld FI.out.lp;have FB:=tB FB hb;clear hb;clear ho1 ho2 q1) | (refine store_new (gvs h (.slice (some ⟨g1,0,none⟩) ds.length c1) nx (.slice (some ⟨g2,0,none⟩) ps.length c2) tk rc) 37 _ _ (by kernel_rfl) (by kernel_rfl) (by kernel_rfl) rfl rfl rfl rfl ?_))
 obtain ⟨gb,hgb⟩:∃ b,b=w2.heap.size:=⟨_,rfl⟩
 obtain ⟨W3,hW⟩:∃ W,W=w2.alloc (.cells (gvs h (.slice (some ⟨g1,0,none⟩) ds.length c1) nx (.slice (some ⟨g2,0,none⟩) ps.length c2) tk rc).toArray 37):=⟨_,rfl⟩
 have lg:=F1.out.lt
 rw [← hgb] at lg
 have lg1:=FD.out.bl.2
 rw [← hgb] at lg1
 have lg2:=FP.out.bl.2
 rw [← hgb] at lg2
 have F0:Hid (Blk W3 w.heap.size (gvs h (.slice (some ⟨gd,0,none⟩) ds.length dc) nx (.slice (some ⟨gp,0,none⟩) ps.length pc) tk rc)):=by rw [hW];exact F0.out.alloc _
 have F1:Hid (Blk W3 (w.heap.size + 1) ([I Z 0,I Z 0,I Z 0,I Z 0,I Z 0,I Z 0,I Z 0,I Z 0,I Z 0,I Z 0,I Z 0,I Z 0,I Z 0,I Z 0,.slice none 0 0,I Z 0,.slice none 0 0,I Z 0,.bool false])):=by rw [hW];exact F1.out.alloc _
 have FI:Hid (GI W3 gd gp ds ps):=by rw [hW];exact FI.out.alloc _
 have FB:Hid (Below w.heap.size w W3):=by rw [hW];exact FB.out.alloc FB.out.size _
 have FD:Hid (OwD W3 (w.heap.size + 2) g1 ds.length c1 (ds)):=by rw [hW];exact FD.out.alloc _
 have FP:Hid (Ow W3 (w.heap.size + 2) g2 ps.length c2 (ps)):=by rw [hW];exact FP.out.alloc _
 have FG:Hid (Blk W3 gb (gvs h (.slice (some ⟨g1,0,none⟩) ds.length c1) nx (.slice (some ⟨g2,0,none⟩) ps.length c2) tk rc)):=by rw [hW];exact Blk.at_ w2 (gvs h (.slice (some ⟨g1,0,none⟩) ds.length c1) nx (.slice (some ⟨g2,0,none⟩) ps.length c2) tk rc).toArray _ _ hgb
 rw [← hW,← hgb]
 clear hW hgb
 have lB1:=FD.out.bl.1
 have lB2:=FP.out.bl.1
 obtain ⟨t0,t1,n3,ok,j1,j2,l2⟩:=TT.out
 rw [inB_iff] at j1 j2
 have G0:Gs W3 W3 (w.heap.size + 2) gb g1 c1 g2 c2 h ds nx ps tk rc:=⟨FG.out,FD.out,FP.out,by omega,by omega,ne12,by omega,Below.refl _ _⟩
 have CT:=tick_w (a:=⟨h,ds.length,c1,nx,ps.length,c2,tk,rc⟩) n3 l2 (ok c1 c2) HA.out dl du j1.1 j1.2 j2.1 j2.2 t0 t1 W3 G0
 obtain ⟨q,hq⟩:∃ q,(tk8 h rc dl du (ds,ps) ds.length)=q:=⟨_,rfl⟩
 dsimp only at CT
 rw [hq] at CT
 have HQ:=zH hq
 have HT:=zH CT
 clear CT G0 ok hq j1 j2 t0 t1 n3 FG FD FP FI F0
 go_upto_region 10 with (go_at_call 25;refine HT.out.mono ?_;rintro e w4 ⟨rfl,g2,c2,G⟩;have n12:=G.n12;have F1:Hid (Blk w4 (w.heap.size + 1) ([I Z 0,I Z 0,I Z 0,I Z 0,I Z 0,I Z 0,I Z 0,I Z 0,I Z 0,I Z 0,I Z 0,I Z 0,I Z 0,I Z 0,.slice none 0 0,I Z 0,.slice none 0 0,I Z 0,.bool false])):=F1.out.below G.fb (by omega);have FB:Hid (Below w.heap.size w w4):=FB.out.trans (G.fb.mono (by omega));have FG:Hid (Blk w4 gb (gvs h (.slice (some ⟨g1,0,none⟩) q.1.length c1) nx (.slice (some ⟨g2,0,none⟩) q.2.length c2) (tk + 1) rc)):=G.f;have FD:Hid (OwD w4 (w.heap.size + 2) g1 q.1.length c1 q.1):=G.d;have FP:Hid (Ow w4 (w.heap.size + 2) g2 q.2.length c2 q.2):=G.p;clear G)
 clear HT
 go_wp2_with (first | (refine load_blk 37 _ Tryz.underlying37 (by kernel_rfl) FG.out rfl rfl rfl ?_) | (refine store_blk (rvs 0 0 h (.slice (some ⟨g1,0,none⟩) q.1.length c1) nx (.slice (some ⟨g2,0,none⟩) q.2.length c2) (tk + 1) rc) 39 _ _ (by kernel_rfl) (by kernel_rfl) (by kernel_rfl) F1.out rfl rfl rfl rfl ?_))
 refine bodyPost_ret (v:=.agg #[I Z 0,I Z 0,I Z h.fl,I Z h.gp,I Z h.ln,I Z h.rf,I Z h.sp,I Z h.pu,I Z h.br,I Z h.dr,I Z h.lv,I Z h.dO,I Z h.ld,I Z h.qu,.slice (some ⟨g1,0,none⟩) q.1.length c1,I Z nx,.slice (some ⟨g2,0,none⟩) q.2.length c2,I Z (tk + 1),.bool rc]) ((F1.out.row (rvs 0 0 h (.slice (some ⟨g1,0,none⟩) q.1.length c1) nx (.slice (some ⟨g2,0,none⟩) q.2.length c2) (tk + 1) rc)).res _ Tryz.results7 Tryz.underlying39 (by kernel_rfl) rfl) rfl ?_
 rw [HQ.out]
 have o1:=((FD.out.row (b:=w.heap.size + 1) (by have:=FD.out.bl.1;omega) (rvs 0 0 h (.slice (some ⟨g1,0,none⟩) q.1.length c1) nx (.slice (some ⟨g2,0,none⟩) q.2.length c2) (tk + 1) rc).toArray).base (show w.heap.size≤w.heap.size + 2 by omega)).own
 have o2:=((FP.out.row (b:=w.heap.size + 1) (by have:=FP.out.bl.1;omega) (rvs 0 0 h (.slice (some ⟨g1,0,none⟩) q.1.length c1) nx (.slice (some ⟨g2,0,none⟩) q.2.length c2) (tk + 1) rc).toArray).base (show w.heap.size≤w.heap.size + 2 by omega)).own
 exact ⟨some ⟨g1,0,none⟩,c1,some ⟨g2,0,none⟩,c2,rfl,o1,o2,(fun j e1 e2=>by have a1:g1=j:=Option.some.inj e1;have a2:g2=j:=Option.some.inj e2;omega),below_row FB.out (by omega) _⟩
end Go.Proofs.YteimojoicfjdjaaGreat
