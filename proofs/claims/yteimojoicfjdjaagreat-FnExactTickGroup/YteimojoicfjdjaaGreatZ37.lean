/- Parts of the proof: LedA. -/
import Derived.Test.YteimojoicfjdjaaGreatZ13
import Derived.Test.YteimojoicfjdjaaGreatZ29
import Derived.BigGuardPart
import Derived.Deep.RegionWith
import Derived.Laws.EntriesVeiled
namespace Go.Proofs.YteimojoicfjdjaaGreat
set_option maxRecDepth 20000
set_option maxHeartbeats 16000000
open Value renaming int → I
open IntKind renaming i64 → Z
open Go.RowKit Pl
set_option linter.unusedSimpArgs false
set_option linter.unusedVariables false
theorem ret_b{a b:Bool}(h:a=b):Ending.returned (.bool a)=.returned (.bool b):=by rw [h]
theorem wayFault_any(h:Hs)(f1:2≤h.fl)(f2:h.fl≤12)(f t:Int)(w:World) :
  Calls Tryz.prog 131 #[.agg #[I Z h.fl,I Z h.gp,I Z h.ln,I Z h.rf,I Z h.sp,I Z h.pu,I Z h.br,I Z h.dr,I Z h.lv,I Z h.dO,I Z h.ld,I Z h.qu],I Z f,I Z t] w fun e w'=>e=.returned (I Z (Hs.callC h f t))∧Below w.heap.size w w':=by
 have F0:Hid (HAt (w.alloc (.cells #[I Z h.fl,I Z h.gp,I Z h.ln,I Z h.rf,I Z h.sp,I Z h.pu,I Z h.br,I Z h.dr,I Z h.lv,I Z h.dO,I Z h.ld,I Z h.qu] 31)) w.heap.size h):=HAt.new w h _
 have FB:Hid (Below w.heap.size w (w.alloc (.cells #[I Z h.fl,I Z h.gp,I Z h.ln,I Z h.rf,I Z h.sp,I Z h.pu,I Z h.br,I Z h.dr,I Z h.lv,I Z h.dO,I Z h.ld,I Z h.qu] 31))):=(Below.refl _ _).alloc (Nat.le_refl _) _
 obtain ⟨r,hr⟩:∃ r,Hs.callC h f t=r:=⟨_,rfl⟩
 rw [hr]
 unfold Hs.callC at hr
 cases i1:inB f 0 (h.fl - 1)
 ·rw [if_neg (by rw [i1];simp)] at hr
  have HR:=zH hr
  clear hr
  go_enter Tryz.func131,Tryz.ntmps131
  go_wp2_with (go_at_call 133;refine (isFloor_any h f (by omega) (by omega) _).mono ?_;rw [i1];rintro e w7 ⟨rfl,hb⟩;have F0:=zH (F0.out.below hb F0.out.lt);have FB:=tB FB hb;clear hb;obtain ⟨x0_0,x0_1,x0_2,x0_3,x0_4,x0_5,x0_6,x0_7,x0_8,x0_9,x0_10,x0_11⟩:=F0.out)
  go_ret
  exact ⟨ret_int HR.out,FB.out⟩
 ·cases i2:inB t 0 (h.fl - 1)
  ·rw [if_neg (by rw [i2];simp)] at hr
   have HR:=zH hr
   clear hr
   go_enter Tryz.func131,Tryz.ntmps131
   go_wp2_with (first | ((fail_if_success have:=G0);go_at_call 133;refine (isFloor_any h f (by omega) (by omega) _).mono ?_;rw [i1];rintro e w7 ⟨rfl,hb⟩;have F0:=zH (F0.out.below hb F0.out.lt);have FB:=tB FB hb;clear hb;have G0:=F0;obtain ⟨x0_0,x0_1,x0_2,x0_3,x0_4,x0_5,x0_6,x0_7,x0_8,x0_9,x0_10,x0_11⟩:=F0.out) | (go_at_call 133;refine (isFloor_any h t (by omega) (by omega) _).mono ?_;rw [i2];rintro e w8 ⟨rfl,hb⟩;have F0:=zH (F0.out.below hb F0.out.lt);have FB:=tB FB hb;clear hb;obtain ⟨x0_0,x0_1,x0_2,x0_3,x0_4,x0_5,x0_6,x0_7,x0_8,x0_9,x0_10,x0_11⟩:=F0.out))
   go_ret
   exact ⟨ret_int HR.out,FB.out⟩
  ·rw [if_pos ⟨i1,i2⟩] at hr
   by_cases e:f=t
   ·rw [if_pos e] at hr
    have HR:=zH hr
    have be:(f == t)=true:=by simpa using e
    clear hr e
    go_enter Tryz.func131,Tryz.ntmps131
    go_wp2_with (first | ((fail_if_success have:=G0);go_at_call 133;refine (isFloor_any h f (by omega) (by omega) _).mono ?_;rw [i1];rintro e w7 ⟨rfl,hb⟩;have F0:=zH (F0.out.below hb F0.out.lt);have FB:=tB FB hb;clear hb;have G0:=F0;obtain ⟨x0_0,x0_1,x0_2,x0_3,x0_4,x0_5,x0_6,x0_7,x0_8,x0_9,x0_10,x0_11⟩:=F0.out) | (go_at_call 133;refine (isFloor_any h t (by omega) (by omega) _).mono ?_;rw [i2];rintro e w8 ⟨rfl,hb⟩;have F0:=zH (F0.out.below hb F0.out.lt);have FB:=tB FB hb;clear hb;obtain ⟨x0_0,x0_1,x0_2,x0_3,x0_4,x0_5,x0_6,x0_7,x0_8,x0_9,x0_10,x0_11⟩:=F0.out))
    go_ret
    exact ⟨ret_int HR.out,FB.out⟩
   ·rw [if_neg e] at hr
    have HR:=zH hr
    have be:(f == t)=false:=by simpa using e
    clear hr e
    go_enter Tryz.func131,Tryz.ntmps131
    go_wp2_with (first | ((fail_if_success have:=G0);go_at_call 133;refine (isFloor_any h f (by omega) (by omega) _).mono ?_;rw [i1];rintro e w7 ⟨rfl,hb⟩;have F0:=zH (F0.out.below hb F0.out.lt);have FB:=tB FB hb;clear hb;have G0:=F0;obtain ⟨x0_0,x0_1,x0_2,x0_3,x0_4,x0_5,x0_6,x0_7,x0_8,x0_9,x0_10,x0_11⟩:=F0.out) | (go_at_call 133;refine (isFloor_any h t (by omega) (by omega) _).mono ?_;rw [i2];rintro e w8 ⟨rfl,hb⟩;have F0:=zH (F0.out.below hb F0.out.lt);have FB:=tB FB hb;clear hb;obtain ⟨x0_0,x0_1,x0_2,x0_3,x0_4,x0_5,x0_6,x0_7,x0_8,x0_9,x0_10,x0_11⟩:=F0.out))
    go_ret
    exact ⟨ret_int HR.out,FB.out⟩
theorem isCar_any(sh ca:Int)(w:World) :
  Calls Tryz.prog 132 #[I Z sh,I Z ca] w fun e w'=>e=.returned (.bool (inB sh 0 2 && inB ca 0 1))∧w'=w:=by
 cases k:inB sh 0 2
 all_goals
  go_enter Tryz.func132,Tryz.ntmps132
  go_wp2_with (go_at_call 23;refine (isWithin_any _ _ _ _).mono ?_;rintro e w' ⟨rfl,hw⟩;obtain rfl:=hw.symm;clear hw)
  go_ret
  exact ⟨ret_b (by simp),rfl⟩
def isW(st sh ca:Int)(p:Pe):Bool:=p.st == st && p.sh == sh && p.ca == ca
theorem isW_in{st sh ca:Int}(h:0≤sh)(p:Pe):isIn st sh ca p=isW st sh ca p:=by
 have:decide (sh < 0)=false:=decide_eq_false (by omega)
 simp [isIn,isW,this,Bool.and_assoc]
theorem isWith_any(p:Pe)(st sh ca:Int)(w:World) :
  Calls Tryz.prog 196 #[.agg #[I Z p.id,I Z p.fr,I Z p.tw,I Z p.sh,I Z p.ca,I Z p.st,I Z p.pl],I Z st,I Z sh,I Z ca] w fun e w'=>e=.returned (.bool (isW st sh ca p))∧Below w.heap.size w w':=by
 unfold isW
 cases k0:(p.st == st)
 ·go_enter Tryz.func196,Tryz.ntmps196
  go_wp2
  go_ret
  exact ⟨ret_b (by simp),by repeat (first | exact Below.refl _ _ | (refine Below.alloc ?_ ?_ _) | (refine Below.setCell ?_ ?_ _) | (simp;omega) | simp)⟩
 ·cases k1:(p.sh == sh)
  all_goals
   go_enter Tryz.func196,Tryz.ntmps196
   go_wp2
   go_ret
   exact ⟨ret_b (by simp),by repeat (first | exact Below.refl _ _ | (refine Below.alloc ?_ ?_ _) | (refine Below.setCell ?_ ?_ _) | (simp;omega) | simp)⟩
theorem leftNowhere_any(p:Pe)(w:World) :
  Calls Tryz.prog 169 #[.agg #[I Z p.id,I Z p.fr,I Z p.tw,I Z p.sh,I Z p.ca,I Z p.st,I Z p.pl]] w fun e w'=>e=.returned (.bool (p.pl == 0))∧Below w.heap.size w w':=by
 go_enter Tryz.func169,Tryz.ntmps169
 go_wp2
 go_ret
 exact ⟨rfl,by repeat (first | exact Below.refl _ _ | (refine Below.alloc ?_ ?_ _) | (refine Below.setCell ?_ ?_ _) | (simp;omega) | simp)⟩
theorem leftAtGoal_any(p:Pe)(w:World) :
  Calls Tryz.prog 170 #[.agg #[I Z p.id,I Z p.fr,I Z p.tw,I Z p.sh,I Z p.ca,I Z p.st,I Z p.pl]] w fun e w'=>e=.returned (.bool (p.pl == p.tw))∧Below w.heap.size w w':=by
 go_enter Tryz.func170,Tryz.ntmps170
 go_wp2
 go_ret
 exact ⟨rfl,by repeat (first | exact Below.refl _ _ | (refine Below.alloc ?_ ?_ _) | (refine Below.setCell ?_ ?_ _) | (simp;omega) | simp)⟩
theorem leftAnywhere_any(p:Pe)(w:World) :
  Calls Tryz.prog 171 #[.agg #[I Z p.id,I Z p.fr,I Z p.tw,I Z p.sh,I Z p.ca,I Z p.st,I Z p.pl]] w fun e w'=>e=.returned (.bool (true))∧Below w.heap.size w w':=by
 go_enter Tryz.func171,Tryz.ntmps171
 go_wp2
 go_ret
 exact ⟨rfl,by repeat (first | exact Below.refl _ _ | (refine Below.alloc ?_ ?_ _) | (refine Below.setCell ?_ ?_ _) | (simp;omega) | simp)⟩
structure Cel(w:World)(b o:Nat)(v:Value):Prop where
 c0:w.cell? ⟨b,o,none⟩=some v
theorem Cel.lt{w:World}{b o:Nat}{v:Value}(a:Cel w b o v):b < w.heap.size:=World.block_lt_of_cell? w _ a.c0
theorem Cel.below{W w:World}{b o B:Nat}{v:Value}(a:Cel W b o v)(hb:Below B W w)(hB:b < B):Cel w b o v:=⟨(hb.cell (p:=⟨b,o,none⟩) hB).trans a.c0⟩
theorem Cel.alloc{W:World}{b o:Nat}{v:Value}(a:Cel W b o v)(ob:Obj):Cel (W.alloc ob) b o v:=a.below ((Below.refl _ _).alloc (Nat.le_refl _) ob) a.lt
theorem isAtRight_any(p:Pe)(s0:0≤p.st)(s4:p.st≤4)(w:World) :
  Calls Tryz.prog 134 #[.agg #[I Z p.id,I Z p.fr,I Z p.tw,I Z p.sh,I Z p.ca,I Z p.st,I Z p.pl]] w fun e w'=>e=.returned (.bool (!badAt p))∧Below w.heap.size w w':=by
 obtain ⟨id,fr,tw,sh,ca,st,pl⟩:=p
 have s:st=0 ∨ st=1 ∨ st=2 ∨ st=3 ∨ st=4:=by simp at s0 s4;omega
 clear s0 s4
 rcases s with rfl | rfl | rfl | rfl | rfl
 ·go_enter Tryz.func134,Tryz.ntmps134
  go_upto_region 2 with fail
  obtain ⟨W0,hW0⟩:∃ W0,W0=((w.alloc (.cells #[I Z id,I Z fr,I Z tw,I Z sh,I Z ca,I Z 0,I Z pl] 79)).alloc (.cells #[.func (.func 169) #[] #[],.func (.func 169) #[] #[],.func (.func 170) #[] #[],.func (.func 171) #[] #[],.func (.func 169) #[] #[]] 198)):=⟨_,rfl⟩
  have F1:Hid (P7 W0 w.heap.size 0 ⟨id,fr,tw,sh,ca,0,pl⟩):=by rw [hW0];exact (P7.at_ w ⟨id,fr,tw,sh,ca,0,pl⟩ _ _ rfl).alloc _
  have F2:Hid (Cel W0 (w.heap.size + 1) 0 (.func (.func 169) #[] #[])):=by rw [hW0];exact ⟨by simp⟩
  have FB:Hid (Below w.heap.size w W0):=by rw [hW0];exact by repeat (first | exact Below.refl _ _ | (refine Below.alloc ?_ ?_ _) | (refine Below.setCell ?_ ?_ _) | (simp;omega) | simp)
  rw [← hW0]
  clear hW0
  have F1:=zH (F1.out.below (Below.refl _ _).drew F1.out.lt)
  have F2:=zH (F2.out.below (Below.refl _ _).drew F2.out.lt)
  have FB:=zH (FB.out.drew)
  have m0:=F1.out.c0
  have m1:=F1.out.c1
  have m2:=F1.out.c2
  have m3:=F1.out.c3
  have m4:=F1.out.c4
  have m5:=F1.out.c5
  have m6:=F1.out.c6
  have n0:=F2.out.c0
  refine wp_region_held_drew (S:=(fun w''=>w''.cell? ⟨w.heap.size,0,none⟩=some (I Z id)∧w''.cell? ⟨w.heap.size,1,none⟩=some (I Z fr)∧w''.cell? ⟨w.heap.size,2,none⟩=some (I Z tw)∧w''.cell? ⟨w.heap.size,3,none⟩=some (I Z sh)∧w''.cell? ⟨w.heap.size,4,none⟩=some (I Z ca)∧w''.cell? ⟨w.heap.size,5,none⟩=some (I Z 0)∧w''.cell? ⟨w.heap.size,6,none⟩=some (I Z pl)∧w''.cell? ⟨(w.heap.size + 1),0,none⟩=some (.func (.func 169) #[] #[]))) (by kernel_rfl) (by (try dsimp only);first | exact ⟨m0,m1,m2,m3,m4,m5,m6,n0⟩ | go_keep) (fun hHeld=>?_)
  obtain ⟨v_1,hw1⟩:∃ v_1,v_1=W0.drew:=⟨_,rfl⟩
  rw [← hw1] at F1 F2 FB hHeld ⊢
  clear hw1
  have m0:=F1.out.c0
  have m1:=F1.out.c1
  have m2:=F1.out.c2
  have m3:=F1.out.c3
  have m4:=F1.out.c4
  have m5:=F1.out.c5
  have m6:=F1.out.c6
  have n0:=F2.out.c0
  refine tkz 0 rfl ?_
  refine tkz 1 rfl ?_
  refine tkz 2 rfl ?_
  refine tkz 3 rfl ?_
  refine tkz 4 rfl ?_
  refine rd1 5 (fun K hK=>?_)
  go_simp
  refine (leftNowhere_any ⟨id,fr,tw,sh,ca,0,pl⟩ _).mono ?_
  rintro e v_2 ⟨rfl,hb⟩
  have F1:=zH (F1.out.below hb F1.out.lt)
  have F2:=zH (F2.out.below hb F2.out.lt)
  have FB:=tB FB hb
  clear hb
  have m0:=F1.out.c0
  have m1:=F1.out.c1
  have m2:=F1.out.c2
  have m3:=F1.out.c3
  have m4:=F1.out.c4
  have m5:=F1.out.c5
  have m6:=F1.out.c6
  have n0:=F2.out.c0
  try dsimp only
  refine kp hK (fun hHeld=>?_)
  clear hK K
  refine tkz 6 rfl ?_
  refine wpAnyH_done (by kernel_rfl) ?_ _
  go_wp2_with fail
  go_ret
  exact ⟨ret_b (by simp [badAt,bne]),FB.out⟩
 ·go_enter Tryz.func134,Tryz.ntmps134
  go_upto_region 2 with fail
  obtain ⟨W0,hW0⟩:∃ W0,W0=((w.alloc (.cells #[I Z id,I Z fr,I Z tw,I Z sh,I Z ca,I Z 1,I Z pl] 79)).alloc (.cells #[.func (.func 169) #[] #[],.func (.func 169) #[] #[],.func (.func 170) #[] #[],.func (.func 171) #[] #[],.func (.func 169) #[] #[]] 198)):=⟨_,rfl⟩
  have F1:Hid (P7 W0 w.heap.size 0 ⟨id,fr,tw,sh,ca,1,pl⟩):=by rw [hW0];exact (P7.at_ w ⟨id,fr,tw,sh,ca,1,pl⟩ _ _ rfl).alloc _
  have F2:Hid (Cel W0 (w.heap.size + 1) 1 (.func (.func 169) #[] #[])):=by rw [hW0];exact ⟨by simp⟩
  have FB:Hid (Below w.heap.size w W0):=by rw [hW0];exact by repeat (first | exact Below.refl _ _ | (refine Below.alloc ?_ ?_ _) | (refine Below.setCell ?_ ?_ _) | (simp;omega) | simp)
  rw [← hW0]
  clear hW0
  have F1:=zH (F1.out.below (Below.refl _ _).drew F1.out.lt)
  have F2:=zH (F2.out.below (Below.refl _ _).drew F2.out.lt)
  have FB:=zH (FB.out.drew)
  have m0:=F1.out.c0
  have m1:=F1.out.c1
  have m2:=F1.out.c2
  have m3:=F1.out.c3
  have m4:=F1.out.c4
  have m5:=F1.out.c5
  have m6:=F1.out.c6
  have n0:=F2.out.c0
  refine wp_region_held_drew (S:=(fun w''=>w''.cell? ⟨w.heap.size,0,none⟩=some (I Z id)∧w''.cell? ⟨w.heap.size,1,none⟩=some (I Z fr)∧w''.cell? ⟨w.heap.size,2,none⟩=some (I Z tw)∧w''.cell? ⟨w.heap.size,3,none⟩=some (I Z sh)∧w''.cell? ⟨w.heap.size,4,none⟩=some (I Z ca)∧w''.cell? ⟨w.heap.size,5,none⟩=some (I Z 1)∧w''.cell? ⟨w.heap.size,6,none⟩=some (I Z pl)∧w''.cell? ⟨(w.heap.size + 1),1,none⟩=some (.func (.func 169) #[] #[]))) (by kernel_rfl) (by (try dsimp only);first | exact ⟨m0,m1,m2,m3,m4,m5,m6,n0⟩ | go_keep) (fun hHeld=>?_)
  obtain ⟨v_3,hw1⟩:∃ v_3,v_3=W0.drew:=⟨_,rfl⟩
  rw [← hw1] at F1 F2 FB hHeld ⊢
  clear hw1
  have m0:=F1.out.c0
  have m1:=F1.out.c1
  have m2:=F1.out.c2
  have m3:=F1.out.c3
  have m4:=F1.out.c4
  have m5:=F1.out.c5
  have m6:=F1.out.c6
  have n0:=F2.out.c0
  refine tkz 0 rfl ?_
  refine tkz 1 rfl ?_
  refine tkz 2 rfl ?_
  refine tkz 3 rfl ?_
  refine tkz 4 rfl ?_
  refine rd1 5 (fun K hK=>?_)
  go_simp
  refine (leftNowhere_any ⟨id,fr,tw,sh,ca,1,pl⟩ _).mono ?_
  rintro e v_4 ⟨rfl,hb⟩
  have F1:=zH (F1.out.below hb F1.out.lt)
  have F2:=zH (F2.out.below hb F2.out.lt)
  have FB:=tB FB hb
  clear hb
  have m0:=F1.out.c0
  have m1:=F1.out.c1
  have m2:=F1.out.c2
  have m3:=F1.out.c3
  have m4:=F1.out.c4
  have m5:=F1.out.c5
  have m6:=F1.out.c6
  have n0:=F2.out.c0
  try dsimp only
  refine kp hK (fun hHeld=>?_)
  clear hK K
  refine tkz 6 rfl ?_
  refine wpAnyH_done (by kernel_rfl) ?_ _
  go_wp2_with fail
  go_ret
  exact ⟨ret_b (by simp [badAt,bne]),FB.out⟩
 ·go_enter Tryz.func134,Tryz.ntmps134
  go_upto_region 2 with fail
  obtain ⟨W0,hW0⟩:∃ W0,W0=((w.alloc (.cells #[I Z id,I Z fr,I Z tw,I Z sh,I Z ca,I Z 2,I Z pl] 79)).alloc (.cells #[.func (.func 169) #[] #[],.func (.func 169) #[] #[],.func (.func 170) #[] #[],.func (.func 171) #[] #[],.func (.func 169) #[] #[]] 198)):=⟨_,rfl⟩
  have F1:Hid (P7 W0 w.heap.size 0 ⟨id,fr,tw,sh,ca,2,pl⟩):=by rw [hW0];exact (P7.at_ w ⟨id,fr,tw,sh,ca,2,pl⟩ _ _ rfl).alloc _
  have F2:Hid (Cel W0 (w.heap.size + 1) 2 (.func (.func 170) #[] #[])):=by rw [hW0];exact ⟨by simp⟩
  have FB:Hid (Below w.heap.size w W0):=by rw [hW0];exact by repeat (first | exact Below.refl _ _ | (refine Below.alloc ?_ ?_ _) | (refine Below.setCell ?_ ?_ _) | (simp;omega) | simp)
  rw [← hW0]
  clear hW0
  have F1:=zH (F1.out.below (Below.refl _ _).drew F1.out.lt)
  have F2:=zH (F2.out.below (Below.refl _ _).drew F2.out.lt)
  have FB:=zH (FB.out.drew)
  have m0:=F1.out.c0
  have m1:=F1.out.c1
  have m2:=F1.out.c2
  have m3:=F1.out.c3
  have m4:=F1.out.c4
  have m5:=F1.out.c5
  have m6:=F1.out.c6
  have n0:=F2.out.c0
  refine wp_region_held_drew (S:=(fun w''=>w''.cell? ⟨w.heap.size,0,none⟩=some (I Z id)∧w''.cell? ⟨w.heap.size,1,none⟩=some (I Z fr)∧w''.cell? ⟨w.heap.size,2,none⟩=some (I Z tw)∧w''.cell? ⟨w.heap.size,3,none⟩=some (I Z sh)∧w''.cell? ⟨w.heap.size,4,none⟩=some (I Z ca)∧w''.cell? ⟨w.heap.size,5,none⟩=some (I Z 2)∧w''.cell? ⟨w.heap.size,6,none⟩=some (I Z pl)∧w''.cell? ⟨(w.heap.size + 1),2,none⟩=some (.func (.func 170) #[] #[]))) (by kernel_rfl) (by (try dsimp only);first | exact ⟨m0,m1,m2,m3,m4,m5,m6,n0⟩ | go_keep) (fun hHeld=>?_)
  obtain ⟨v_5,hw1⟩:∃ v_5,v_5=W0.drew:=⟨_,rfl⟩
  rw [← hw1] at F1 F2 FB hHeld ⊢
  clear hw1
  have m0:=F1.out.c0
  have m1:=F1.out.c1
  have m2:=F1.out.c2
  have m3:=F1.out.c3
  have m4:=F1.out.c4
  have m5:=F1.out.c5
  have m6:=F1.out.c6
  have n0:=F2.out.c0
  refine tkz 0 rfl ?_
  refine tkz 1 rfl ?_
  refine tkz 2 rfl ?_
  refine tkz 3 rfl ?_
  refine tkz 4 rfl ?_
  refine rd1 5 (fun K hK=>?_)
  go_simp
  refine (leftAtGoal_any ⟨id,fr,tw,sh,ca,2,pl⟩ _).mono ?_
  rintro e v_6 ⟨rfl,hb⟩
  have F1:=zH (F1.out.below hb F1.out.lt)
  have F2:=zH (F2.out.below hb F2.out.lt)
  have FB:=tB FB hb
  clear hb
  have m0:=F1.out.c0
  have m1:=F1.out.c1
  have m2:=F1.out.c2
  have m3:=F1.out.c3
  have m4:=F1.out.c4
  have m5:=F1.out.c5
  have m6:=F1.out.c6
  have n0:=F2.out.c0
  try dsimp only
  refine kp hK (fun hHeld=>?_)
  clear hK K
  refine tkz 6 rfl ?_
  refine wpAnyH_done (by kernel_rfl) ?_ _
  go_wp2_with fail
  go_ret
  exact ⟨ret_b (by simp [badAt,bne]),FB.out⟩
 ·go_enter Tryz.func134,Tryz.ntmps134
  go_upto_region 2 with fail
  obtain ⟨W0,hW0⟩:∃ W0,W0=((w.alloc (.cells #[I Z id,I Z fr,I Z tw,I Z sh,I Z ca,I Z 3,I Z pl] 79)).alloc (.cells #[.func (.func 169) #[] #[],.func (.func 169) #[] #[],.func (.func 170) #[] #[],.func (.func 171) #[] #[],.func (.func 169) #[] #[]] 198)):=⟨_,rfl⟩
  have F1:Hid (P7 W0 w.heap.size 0 ⟨id,fr,tw,sh,ca,3,pl⟩):=by rw [hW0];exact (P7.at_ w ⟨id,fr,tw,sh,ca,3,pl⟩ _ _ rfl).alloc _
  have F2:Hid (Cel W0 (w.heap.size + 1) 3 (.func (.func 171) #[] #[])):=by rw [hW0];exact ⟨by simp⟩
  have FB:Hid (Below w.heap.size w W0):=by rw [hW0];exact by repeat (first | exact Below.refl _ _ | (refine Below.alloc ?_ ?_ _) | (refine Below.setCell ?_ ?_ _) | (simp;omega) | simp)
  rw [← hW0]
  clear hW0
  have F1:=zH (F1.out.below (Below.refl _ _).drew F1.out.lt)
  have F2:=zH (F2.out.below (Below.refl _ _).drew F2.out.lt)
  have FB:=zH (FB.out.drew)
  have m0:=F1.out.c0
  have m1:=F1.out.c1
  have m2:=F1.out.c2
  have m3:=F1.out.c3
  have m4:=F1.out.c4
  have m5:=F1.out.c5
  have m6:=F1.out.c6
  have n0:=F2.out.c0
  refine wp_region_held_drew (S:=(fun w''=>w''.cell? ⟨w.heap.size,0,none⟩=some (I Z id)∧w''.cell? ⟨w.heap.size,1,none⟩=some (I Z fr)∧w''.cell? ⟨w.heap.size,2,none⟩=some (I Z tw)∧w''.cell? ⟨w.heap.size,3,none⟩=some (I Z sh)∧w''.cell? ⟨w.heap.size,4,none⟩=some (I Z ca)∧w''.cell? ⟨w.heap.size,5,none⟩=some (I Z 3)∧w''.cell? ⟨w.heap.size,6,none⟩=some (I Z pl)∧w''.cell? ⟨(w.heap.size + 1),3,none⟩=some (.func (.func 171) #[] #[]))) (by kernel_rfl) (by (try dsimp only);first | exact ⟨m0,m1,m2,m3,m4,m5,m6,n0⟩ | go_keep) (fun hHeld=>?_)
  obtain ⟨v_7,hw1⟩:∃ v_7,v_7=W0.drew:=⟨_,rfl⟩
  rw [← hw1] at F1 F2 FB hHeld ⊢
  clear hw1
  have m0:=F1.out.c0
  have m1:=F1.out.c1
  have m2:=F1.out.c2
  have m3:=F1.out.c3
  have m4:=F1.out.c4
  have m5:=F1.out.c5
  have m6:=F1.out.c6
  have n0:=F2.out.c0
  refine tkz 0 rfl ?_
  refine tkz 1 rfl ?_
  refine tkz 2 rfl ?_
  refine tkz 3 rfl ?_
  refine tkz 4 rfl ?_
  refine rd1 5 (fun K hK=>?_)
  go_simp
  refine (leftAnywhere_any ⟨id,fr,tw,sh,ca,3,pl⟩ _).mono ?_
  rintro e v_8 ⟨rfl,hb⟩
  have F1:=zH (F1.out.below hb F1.out.lt)
  have F2:=zH (F2.out.below hb F2.out.lt)
  have FB:=tB FB hb
  clear hb
  have m0:=F1.out.c0
  have m1:=F1.out.c1
  have m2:=F1.out.c2
  have m3:=F1.out.c3
  have m4:=F1.out.c4
  have m5:=F1.out.c5
  have m6:=F1.out.c6
  have n0:=F2.out.c0
  try dsimp only
  refine kp hK (fun hHeld=>?_)
  clear hK K
  refine tkz 6 rfl ?_
  refine wpAnyH_done (by kernel_rfl) ?_ _
  go_wp2_with fail
  go_ret
  exact ⟨ret_b (by simp [badAt,bne]),FB.out⟩
 ·go_enter Tryz.func134,Tryz.ntmps134
  go_upto_region 2 with fail
  obtain ⟨W0,hW0⟩:∃ W0,W0=((w.alloc (.cells #[I Z id,I Z fr,I Z tw,I Z sh,I Z ca,I Z 4,I Z pl] 79)).alloc (.cells #[.func (.func 169) #[] #[],.func (.func 169) #[] #[],.func (.func 170) #[] #[],.func (.func 171) #[] #[],.func (.func 169) #[] #[]] 198)):=⟨_,rfl⟩
  have F1:Hid (P7 W0 w.heap.size 0 ⟨id,fr,tw,sh,ca,4,pl⟩):=by rw [hW0];exact (P7.at_ w ⟨id,fr,tw,sh,ca,4,pl⟩ _ _ rfl).alloc _
  have F2:Hid (Cel W0 (w.heap.size + 1) 4 (.func (.func 169) #[] #[])):=by rw [hW0];exact ⟨by simp⟩
  have FB:Hid (Below w.heap.size w W0):=by rw [hW0];exact by repeat (first | exact Below.refl _ _ | (refine Below.alloc ?_ ?_ _) | (refine Below.setCell ?_ ?_ _) | (simp;omega) | simp)
  rw [← hW0]
  clear hW0
  have F1:=zH (F1.out.below (Below.refl _ _).drew F1.out.lt)
  have F2:=zH (F2.out.below (Below.refl _ _).drew F2.out.lt)
  have FB:=zH (FB.out.drew)
  have m0:=F1.out.c0
  have m1:=F1.out.c1
  have m2:=F1.out.c2
  have m3:=F1.out.c3
  have m4:=F1.out.c4
  have m5:=F1.out.c5
  have m6:=F1.out.c6
  have n0:=F2.out.c0
  refine wp_region_held_drew (S:=(fun w''=>w''.cell? ⟨w.heap.size,0,none⟩=some (I Z id)∧w''.cell? ⟨w.heap.size,1,none⟩=some (I Z fr)∧w''.cell? ⟨w.heap.size,2,none⟩=some (I Z tw)∧w''.cell? ⟨w.heap.size,3,none⟩=some (I Z sh)∧w''.cell? ⟨w.heap.size,4,none⟩=some (I Z ca)∧w''.cell? ⟨w.heap.size,5,none⟩=some (I Z 4)∧w''.cell? ⟨w.heap.size,6,none⟩=some (I Z pl)∧w''.cell? ⟨(w.heap.size + 1),4,none⟩=some (.func (.func 169) #[] #[]))) (by kernel_rfl) (by (try dsimp only);first | exact ⟨m0,m1,m2,m3,m4,m5,m6,n0⟩ | go_keep) (fun hHeld=>?_)
  obtain ⟨v_9,hw1⟩:∃ v_9,v_9=W0.drew:=⟨_,rfl⟩
  rw [← hw1] at F1 F2 FB hHeld ⊢
  clear hw1
  have m0:=F1.out.c0
  have m1:=F1.out.c1
  have m2:=F1.out.c2
  have m3:=F1.out.c3
  have m4:=F1.out.c4
  have m5:=F1.out.c5
  have m6:=F1.out.c6
  have n0:=F2.out.c0
  refine tkz 0 rfl ?_
  refine tkz 1 rfl ?_
  refine tkz 2 rfl ?_
  refine tkz 3 rfl ?_
  refine tkz 4 rfl ?_
  refine rd1 5 (fun K hK=>?_)
  go_simp
  refine (leftNowhere_any ⟨id,fr,tw,sh,ca,4,pl⟩ _).mono ?_
  rintro e v_10 ⟨rfl,hb⟩
  have F1:=zH (F1.out.below hb F1.out.lt)
  have F2:=zH (F2.out.below hb F2.out.lt)
  have FB:=tB FB hb
  clear hb
  have m0:=F1.out.c0
  have m1:=F1.out.c1
  have m2:=F1.out.c2
  have m3:=F1.out.c3
  have m4:=F1.out.c4
  have m5:=F1.out.c5
  have m6:=F1.out.c6
  have n0:=F2.out.c0
  try dsimp only
  refine kp hK (fun hHeld=>?_)
  clear hK K
  refine tkz 6 rfl ?_
  refine wpAnyH_done (by kernel_rfl) ?_ _
  go_wp2_with fail
  go_ret
  exact ⟨ret_b (by simp [badAt,bne]),FB.out⟩
end Go.Proofs.YteimojoicfjdjaaGreat
