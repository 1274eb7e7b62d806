/- Parts of the proof: NeS, NeU, NeV. -/
import Derived.Test.YteimojoicfjdjaaGreatZ6
import Derived.Test.YteimojoicfjdjaaGreatZ16
import Derived.Test.YteimojoicfjdjaaGreatZ21
import Derived.Test.YteimojoicfjdjaaGreatZ22
import Derived.Test.YteimojoicfjdjaaGreatZ30
import Derived.Test.YteimojoicfjdjaaGreatZ31
import Derived.BigGuardPart
import Derived.Deep.DeepCutAuto
namespace Go.Proofs.YteimojoicfjdjaaGreat
set_option maxRecDepth 20000
set_option maxHeartbeats 32000000
open Value renaming int → I
open IntKind renaming i64 → Z
open Go.RowKit Pl
set_option linter.unusedSimpArgs false
set_option linter.unusedVariables false
theorem l8Car_any(b o:Nat)(d:Dk)(ca:Int)(w:World)(hd:D13 w b o d) :
  Calls Tryz.prog 107 #[.pointer (some ⟨b,o,none⟩),I Z ca] w fun e w'=>e=.returned (.agg #[I Z (carAt d.sh ca).pos,I Z (carAt d.sh ca).vel,I Z (carAt d.sh ca).door])∧Below w.heap.size w w':=by
 have HD:Hid (D13 (w.alloc (.cells #[I Z 0,I Z 0,I Z 0] 65)) b o d):=hd.alloc _
 have F1:Hid (Blk (w.alloc (.cells #[I Z 0,I Z 0,I Z 0] 65)) w.heap.size [I Z 0,I Z 0,I Z 0]):=Blk.at_ w #[I Z 0,I Z 0,I Z 0] _ _ rfl
 have FB:Hid (Below w.heap.size w (w.alloc (.cells #[I Z 0,I Z 0,I Z 0] 65))):=(Below.refl _ _).alloc (Nat.le_refl _) _
 obtain ⟨W0,hW0⟩:∃ W0,W0=w.alloc (.cells #[I Z 0,I Z 0,I Z 0] 65):=⟨_,rfl⟩
 rw [← hW0] at HD F1 FB
 have HW0:=zH hW0
 clear hW0 hd
 unfold carAt
 by_cases k:ca=0
 ·rw [if_pos k]
  have e1:(ca == 0)=true:=by simpa using k
  clear k
  go_enter Tryz.func107,Tryz.ntmps107
  go_upto_region 1 with fail
  rw [← HW0.out]
  obtain ⟨c0,c1,c2,c3,c4,c5,c6,c7,c8,c9,c10,c11,c12⟩:=HD.out
  go_wp2_with (refine store_blk [I Z d.sh.lo.pos,I Z d.sh.lo.vel,I Z d.sh.lo.door] 65 _ _ (by kernel_rfl) (by kernel_rfl) (by kernel_rfl) F1.out rfl rfl rfl rfl ?_)
  exact bodyPost_ret (v:=.agg #[I Z d.sh.lo.pos,I Z d.sh.lo.vel,I Z d.sh.lo.door]) ((F1.out.row [I Z d.sh.lo.pos,I Z d.sh.lo.vel,I Z d.sh.lo.door]).res _ Tryz.results107 Tryz.underlying65 (by kernel_rfl) rfl) rfl ⟨rfl,below_row FB.out (by omega) _⟩
 ·rw [if_neg k]
  have e1:(ca == 0)=false:=by simpa using k
  clear k
  go_enter Tryz.func107,Tryz.ntmps107
  go_upto_region 1 with fail
  rw [← HW0.out]
  obtain ⟨c0,c1,c2,c3,c4,c5,c6,c7,c8,c9,c10,c11,c12⟩:=HD.out
  go_wp2_with (refine store_blk [I Z d.sh.up.pos,I Z d.sh.up.vel,I Z d.sh.up.door] 65 _ _ (by kernel_rfl) (by kernel_rfl) (by kernel_rfl) F1.out rfl rfl rfl rfl ?_)
  exact bodyPost_ret (v:=.agg #[I Z d.sh.up.pos,I Z d.sh.up.vel,I Z d.sh.up.door]) ((F1.out.row [I Z d.sh.up.pos,I Z d.sh.up.vel,I Z d.sh.up.door]).res _ Tryz.results107 Tryz.underlying65 (by kernel_rfl) rfl) rfl ⟨rfl,below_row FB.out (by omega) _⟩
theorem l8Need_any(gb:Nat)(h:Hs)(ds:List Dk)(da:Option Addr)(dc:Nat)(nx:Int)(ps:List Pe)(pa:Option Addr)(pc:Nat)(tk:Int)(rc:Bool)(sh ca:Int)(oh:h.Ok)(s0:0≤sh)(s1:sh < ds.length)(hld:ds.length≤1048576)(hlp:ps.length≤1048576)(r:Int × Int × Int)(hr:need8 h ds ps rc sh ca=r)(w:World)(hG:Blk w gb (gvs h (.slice da ds.length dc) nx (.slice pa ps.length pc) tk rc))(hD:DIn w w.heap.size da ds)(hP:PIn w w.heap.size pa ps) :
  Calls Tryz.prog 65 #[.pointer (some ⟨gb,0,none⟩),I Z sh,I Z ca] w fun e w'=>e=.returned (.agg #[I Z r.1,I Z r.2.1,I Z r.2.2])∧Below w.heap.size w w':=by
 have HO:Hid h.Ok:=oh
 have HD:=zH hD
 have HP:=zH hP
 have FG:Hid (Blk (w.alloc (.cells #[I Z 0,I Z 0,I Z 0] 97)) gb (gvs h (.slice da ds.length dc) nx (.slice pa ps.length pc) tk rc)):=hG.alloc _
 have lg:=hG.lt
 have F1:Hid (Blk (w.alloc (.cells #[I Z 0,I Z 0,I Z 0] 97)) w.heap.size [I Z 0,I Z 0,I Z 0]):=Blk.at_ w #[I Z 0,I Z 0,I Z 0] _ _ rfl
 have FB:Hid (Below w.heap.size w (w.alloc (.cells #[I Z 0,I Z 0,I Z 0] 97))):=(Below.refl _ _).alloc (Nat.le_refl _) _
 obtain ⟨W0,hW0⟩:∃ W0,W0=(w.alloc (.cells #[I Z 0,I Z 0,I Z 0] 97)):=⟨_,rfl⟩
 rw [← hW0] at FG F1 FB
 have HW0:=zH hW0
 clear hW0 hG hD hP oh
 unfold need8 at hr
 cases rc
 ·have HR:Hid (Hs.need h ps sh ca=r):=by
   rw [if_neg (by simp)] at hr
   exact hr
  clear hr
  go_enter Tryz.func65,Tryz.ntmps65
  go_upto_region 1 with fail
  rw [← HW0.out]
  clear HW0
  have m16:=FG.out.c 16 _ rfl
  go_upto_region 2 with fail
  clear m16
  have FG:=zH (FG.out.below (Below.refl _ _).drew FG.out.lt)
  have F1:=zH (F1.out.below (Below.refl _ _).drew F1.out.lt)
  have FB:=zH (FB.out.drew)
  obtain ⟨m0,m1,m2,m3,m4,m5,m6,m7,m8,m9,m10,m11,m12,m13,m14,m15,m16⟩:=FG.out.c17
  refine wp_region_held_drew (S:=(fun w''=>hS gb h w''∧w''.cell? ⟨gb,12,none⟩=some (.slice da ds.length dc)∧w''.cell? ⟨gb,13,none⟩=some (I Z nx)∧w''.cell? ⟨gb,14,none⟩=some (.slice pa ps.length pc)∧w''.cell? ⟨gb,15,none⟩=some (I Z tk)∧w''.cell? ⟨gb,16,none⟩=some (.bool false))) (by kernel_rfl) (by ((try dsimp only);(try simp only [hS]);first | ((repeat' apply And.intro) <;> assumption) | go_keep)) (fun hHeld=>?_)
  obtain ⟨v_3,hw1⟩:∃ v_3,v_3=W0.drew:=⟨_,rfl⟩
  rw [← hw1] at FG F1 FB hHeld ⊢
  clear hw1
  obtain ⟨m0,m1,m2,m3,m4,m5,m6,m7,m8,m9,m10,m11,m12,m13,m14,m15,m16⟩:=FG.out.c17
  refine tkz 0 rfl ?_
  refine tkz 1 rfl ?_
  refine tkz 2 rfl ?_
  refine tkz 3 rfl ?_
  refine tkz 4 rfl ?_
  refine tkz 5 rfl ?_
  refine tkz 6 rfl ?_
  refine tkz 7 rfl ?_
  refine tkz 8 rfl ?_
  refine rd1 9 (fun K hK=>?_)
  go_simp
  refine (l7Need_anyO h gb 13 nx pa pc ps sh ca hlp r HR.out _ ⟨FG.out.c 13 _ rfl,FG.out.c 14 _ rfl⟩ ((HP.out.below FB.out (Nat.le_refl _)).mono FB.out.size)).mono ?_
  rintro e v_4 ⟨rfl,hb⟩
  have FG:=zH (FG.out.below hb FG.out.lt)
  have F1:=bB F1 hb
  have FB:=tB FB hb
  clear hb
  obtain ⟨m0,m1,m2,m3,m4,m5,m6,m7,m8,m9,m10,m11,m12,m13,m14,m15,m16⟩:=FG.out.c17
  try dsimp only
  refine kp hK (fun hHeld=>?_)
  clear hK K
  refine rd1 10 (fun K hK=>?_)
  obtain ⟨z0,z1,z2⟩:=F1.out.c3
  have zf0:=F1.out.f 0 (Nat.le_of_ble_eq_true rfl)
  have zf1:=F1.out.f 1 (Nat.le_of_ble_eq_true rfl)
  have zf2:=F1.out.f 2 (Nat.le_of_ble_eq_true rfl)
  go_simp
  obtain ⟨v_5,hw2⟩:∃ v_5,v_5=putB v_4 w.heap.size 0 [I Z r.1,I Z r.2.1,I Z r.2.2]:=⟨_,rfl⟩
  change K _ (putB v_4 w.heap.size 0 [I Z r.1,I Z r.2.1,I Z r.2.2])
  rw [← hw2]
  clear z0 z1 z2 zf0 zf1 zf2
  have FG:Hid (Blk v_5 gb (gvs h (.slice da ds.length dc) nx (.slice pa ps.length pc) tk false)):=by rw [hw2];exact Blk.putB_other (by omega) [I Z r.1,I Z r.2.1,I Z r.2.2] 0 FG.out
  have F1:Hid (Blk v_5 w.heap.size [I Z r.1,I Z r.2.1,I Z r.2.2]):=by rw [hw2];exact F1.out.put [I Z r.1,I Z r.2.1,I Z r.2.2] rfl
  have FB:Hid (Below w.heap.size w v_5):=by rw [hw2];exact below_putB FB.out (by omega) _ _
  clear hw2
  obtain ⟨m0,m1,m2,m3,m4,m5,m6,m7,m8,m9,m10,m11,m12,m13,m14,m15,m16⟩:=FG.out.c17
  refine kp hK (fun hHeld=>?_)
  clear hK K
  refine wpAnyH_done (by kernel_rfl) ?_ _
  go_wp2_with fail
  exact bodyPost_ret (v:=.agg #[I Z r.1,I Z r.2.1,I Z r.2.2]) (F1.out.res _ Tryz.results65 Tryz.underlying97 (by kernel_rfl) rfl) rfl ⟨rfl,FB.out⟩
 ·have HR:Hid (rec8 h ps (shOf ds sh) sh ca=r):=by
   rw [if_pos rfl] at hr
   exact hr
  clear hr
  obtain ⟨n,hn⟩:∃ n:Nat,sh=(n:Int):=⟨sh.toNat,by omega⟩
  subst hn
  obtain ⟨d,hd⟩:∃ d,ds[n]? = some d:=⟨_,List.getElem?_eq_getElem (by omega)⟩
  have HR:Hid (rec8 h ps d.sh (n:Int) ca=r):=by
   have q:=HR.out
   unfold shOf at q
   rw [Int.toNat_natCast,hd] at q
   exact q
  rcases HD.out with hz | ⟨b',o',ha,hbl',h13⟩
  ·rw [hz] at s1;simp at s1;omega
  subst ha
  have HE:Hid (D13 w b' (o' + n * 13) d):=h13 n d hd
  have HBL:Hid (b' < w.heap.size):=hbl'
  clear h13 hd hbl'
  go_enter Tryz.func65,Tryz.ntmps65
  go_upto_region 1 with fail
  rw [← HW0.out]
  clear HW0
  have m16:=FG.out.c 16 _ rfl
  go_wp2_with fail
  clear m16
  go_loopw [7] (fun ii wr=>∃ i:Nat,ii=I Z i∧i≤ps.length∧(∀ (j:Nat) q,j < i→ps[j]? = some q→ridB (n:Int) ca q=false)∧Blk wr gb (gvs h (.slice (some ⟨b',o',none⟩) ds.length dc) nx (.slice pa ps.length pc) tk true)∧Blk wr w.heap.size [I Z 0,I Z 0,I Z 0]∧Below w.heap.size w wr) (fun ii _=>ps.length - (intOf ii).toNat)
  case atStart=>exact ⟨0,rfl,by omega,fun j q hj=>absurd hj (by omega),FG.out,F1.out,FB.out⟩
  case round=>
   obtain ⟨i,rfl,hi,hok,h0,h1,h2⟩:=hrel
   have HOK:=zH hok
   have FG:=zH h0
   have F1:=zH h1
   have FB:=zH h2
   clear hok h0 h1 h2
   have m14:=FG.out.c 14 _ rfl
   by_cases hlt:i < ps.length
   ·obtain ⟨p,hp⟩:∃ p,ps[i]? = some p:=⟨_,List.getElem?_eq_getElem hlt⟩
    have HHIT:Hid (ridB (n:Int) ca p=true→r=(0,p.id,floor8 h (carAt d.sh ca))):=fun z=>by rw [← HR.out];exact rec_hit hp z HOK.out
    have HN:Hid (ridB (n:Int) ca p=false→∀ (j:Nat) q,j < i + 1→ps[j]? = some q→ridB (n:Int) ca q=false):=by
     intro z j q hj hq
     by_cases ej:j=i
     ·subst ej
      rw [hp] at hq
      cases hq
      exact z
     ·exact HOK.out j q (by omega) hq
    rcases HP.out with hz | ⟨b,o,ha,hbl,h7⟩
    ·rw [hz] at hlt;simp at hlt
    subst ha
    obtain ⟨c0,c1,c2,c3,c4,c5,c6⟩:=(h7 i p hp).below FB.out hbl
    clear h7 hp HOK HR
    go_upto_region 7 with fail
    obtain ⟨pb,hpb⟩:∃ pb,pb=wr.heap.size:=⟨_,rfl⟩
    have lpb:w.heap.size < pb:=by rw [hpb];exact F1.out.lt
    obtain ⟨W1,hW1⟩:∃ W1,W1=wr.alloc (.cells #[I Z p.id,I Z p.fr,I Z p.tw,I Z p.sh,I Z p.ca,I Z p.st,I Z p.pl] 79):=⟨_,rfl⟩
    have FG:Hid (Blk W1 gb (gvs h (.slice (some ⟨b',o',none⟩) ds.length dc) nx (.slice (some ⟨b,o,none⟩) ps.length pc) tk true)):=by rw [hW1];exact FG.out.alloc _
    have F1:Hid (Blk W1 w.heap.size [I Z 0,I Z 0,I Z 0]):=by rw [hW1];exact F1.out.alloc _
    have FP:Hid (Blk W1 pb (cells7 p)):=by rw [hW1];exact Blk.at_ wr #[I Z p.id,I Z p.fr,I Z p.tw,I Z p.sh,I Z p.ca,I Z p.st,I Z p.pl] _ _ hpb
    have FB:Hid (Below w.heap.size w W1):=by rw [hW1];exact FB.out.alloc FB.out.size _
    rw [← hW1,← hpb]
    clear hW1 hpb c0 c1 c2 c3 c4 c5 c6 m14
    obtain ⟨z0,z1,z2,z3,z4,z5,z6⟩:=FP.out.c7
    cases a1:(p.sh == (n:Int)) <;> cases a2:(p.ca == ca) <;> cases a3:(p.st == 1)
    case true.true.true=>
     have er:=HHIT.out (by unfold ridB;rw [a1,a2,a3];rfl)
     subst er
     have FE:Hid (D13 W1 b' (o' + n * 13) d):=HE.out.below FB.out HBL.out
     clear HHIT HN
     go_upto_region 8 with fail
     have FG:=zH (FG.out.below (Below.refl _ _).drew FG.out.lt)
     have F1:=zH (F1.out.below (Below.refl _ _).drew F1.out.lt)
     have FP:=zH (FP.out.below (Below.refl _ _).drew FP.out.lt)
     have FE:=zH (FE.out.below (Below.refl _ _).drew FE.out.lt)
     have FB:=zH (FB.out.drew)
     obtain ⟨m0,m1,m2,m3,m4,m5,m6,m7,m8,m9,m10,m11,m12,m13,m14,m15,m16⟩:=FG.out.c17
     have n0:=FP.out.c 0 _ rfl
     refine wp_region_held_drew (S:=(fun w''=>hS gb h w''∧w''.cell? ⟨gb,12,none⟩=some (.slice (some ⟨b',o',none⟩) ds.length dc)∧w''.cell? ⟨gb,13,none⟩=some (I Z nx)∧w''.cell? ⟨gb,14,none⟩=some (.slice (some ⟨b,o,none⟩) ps.length pc)∧w''.cell? ⟨gb,15,none⟩=some (I Z tk)∧w''.cell? ⟨gb,16,none⟩=some (.bool true)∧w''.cell? ⟨pb,0,none⟩=some (I Z p.id))) (by kernel_rfl) (by ((try dsimp only);(try simp only [hS]);first | ((repeat' apply And.intro) <;> assumption) | go_keep)) (fun hHeld=>?_)
     obtain ⟨v_6,hw1⟩:∃ v_6,v_6=W1.drew:=⟨_,rfl⟩
     rw [← hw1] at FG F1 FP FE FB hHeld ⊢
     clear hw1
     obtain ⟨m0,m1,m2,m3,m4,m5,m6,m7,m8,m9,m10,m11,m12,m13,m14,m15,m16⟩:=FG.out.c17
     have n0:=FP.out.c 0 _ rfl
     refine tkz 0 rfl ?_
     refine tkz 1 rfl ?_
     refine tkz 2 rfl ?_
     refine tkz 3 rfl ?_
     refine tkz 4 rfl ?_
     refine tkz 5 rfl ?_
     refine tkz 6 rfl ?_
     refine tkz 7 rfl ?_
     refine tkz 8 rfl ?_
     refine tkz 9 rfl ?_
     refine tkz 10 rfl ?_
     refine tkz 11 rfl ?_
     refine tkz 12 rfl ?_
     refine rd1 13 (fun K hK=>?_)
     go_simp
     refine (l8Car_any b' (o' + n * 13) d ca _ FE.out).mono ?_
     rintro e v_7 ⟨rfl,hb⟩
     have FG:=zH (FG.out.below hb FG.out.lt)
     have F1:=bB F1 hb
     have FP:=zH (FP.out.below hb FP.out.lt)
     have FE:=zH (FE.out.below hb FE.out.lt)
     have FB:=tB FB hb
     clear hb
     obtain ⟨m0,m1,m2,m3,m4,m5,m6,m7,m8,m9,m10,m11,m12,m13,m14,m15,m16⟩:=FG.out.c17
     have n0:=FP.out.c 0 _ rfl
     try dsimp only
     refine kp hK (fun hHeld=>?_)
     clear hK K
     refine rd1 14 (fun K hK=>?_)
     go_simp
     refine (l8Floor_any h HO.out (carAt d.sh ca) _).mono ?_
     rintro e v_8 ⟨rfl,hb⟩
     have FG:=zH (FG.out.below hb FG.out.lt)
     have F1:=bB F1 hb
     have FP:=zH (FP.out.below hb FP.out.lt)
     have FE:=zH (FE.out.below hb FE.out.lt)
     have FB:=tB FB hb
     clear hb
     obtain ⟨m0,m1,m2,m3,m4,m5,m6,m7,m8,m9,m10,m11,m12,m13,m14,m15,m16⟩:=FG.out.c17
     have n0:=FP.out.c 0 _ rfl
     try dsimp only
     refine kp hK (fun hHeld=>?_)
     clear hK K
     refine tkz 15 rfl ?_
     refine rd1 16 (fun K hK=>?_)
     obtain ⟨z0,z1,z2⟩:=F1.out.c3
     have zf0:=F1.out.f 0 (Nat.le_of_ble_eq_true rfl)
     have zf1:=F1.out.f 1 (Nat.le_of_ble_eq_true rfl)
     have zf2:=F1.out.f 2 (Nat.le_of_ble_eq_true rfl)
     go_simp
     obtain ⟨v_9,hw2⟩:∃ v_9,v_9=putB v_8 w.heap.size 0 [I Z 0,I Z p.id,I Z (floor8 h (carAt d.sh ca))]:=⟨_,rfl⟩
     change K _ (putB v_8 w.heap.size 0 [I Z 0,I Z p.id,I Z (floor8 h (carAt d.sh ca))])
     rw [← hw2]
     clear z0 z1 z2 zf0 zf1 zf2
     have FG:Hid (Blk v_9 gb (gvs h (.slice (some ⟨b',o',none⟩) ds.length dc) nx (.slice (some ⟨b,o,none⟩) ps.length pc) tk true)):=by rw [hw2];exact Blk.putB_other (by omega) [I Z 0,I Z p.id,I Z (floor8 h (carAt d.sh ca))] 0 FG.out
     have F1:Hid (Blk v_9 w.heap.size [I Z 0,I Z p.id,I Z (floor8 h (carAt d.sh ca))]):=by rw [hw2];exact F1.out.put [I Z 0,I Z p.id,I Z (floor8 h (carAt d.sh ca))] rfl
     have FP:Hid (Blk v_9 pb (cells7 p)):=by rw [hw2];exact Blk.putB_other (by omega) [I Z 0,I Z p.id,I Z (floor8 h (carAt d.sh ca))] 0 FP.out
     have FB:Hid (Below w.heap.size w v_9):=by rw [hw2];exact below_putB FB.out (by omega) _ _
     clear hw2
     obtain ⟨m0,m1,m2,m3,m4,m5,m6,m7,m8,m9,m10,m11,m12,m13,m14,m15,m16⟩:=FG.out.c17
     have n0:=FP.out.c 0 _ rfl
     refine kp hK (fun hHeld=>?_)
     clear hK K
     refine wpAnyH_done (by kernel_rfl) ?_ _
     go_wp2_with fail
     exact bodyPost_ret (v:=.agg #[I Z 0,I Z p.id,I Z (floor8 h (carAt d.sh ca))]) (F1.out.res _ Tryz.results65 Tryz.underlying97 (by kernel_rfl) rfl) rfl ⟨rfl,FB.out⟩
    all_goals
     have HM:Hid (∀ (j:Nat) q,j < i + 1→ps[j]? = some q→ridB (n:Int) ca q=false):=HN.out (by unfold ridB;rw [a1,a2,a3];rfl)
     clear HN HHIT
     go_wp2_with fail
     go_roundw
     case rel=>exact ⟨i + 1,by simp,by omega,HM.out,FG.out,F1.out,FB.out⟩
     case measure=>simp [intOf];omega
   ·have ei:i=ps.length:=by omega
    subst ei
    have er:r=(4,0,0):=by rw [← HR.out];exact rec_none HOK.out
    subst er
    clear HOK HR
    go_wp2_with (refine store_blk [I Z 4,I Z 0,I Z 0] 97 _ _ (by kernel_rfl) (by kernel_rfl) (by kernel_rfl) F1.out rfl rfl rfl rfl ?_)
    exact bodyPost_ret (v:=.agg #[I Z 4,I Z 0,I Z 0]) ((F1.out.row [I Z 4,I Z 0,I Z 0]).res _ Tryz.results65 Tryz.underlying97 (by kernel_rfl) rfl) rfl ⟨rfl,below_row FB.out (by omega) _⟩
set_option linter.unusedSimpArgs false
set_option linter.unusedVariables false
theorem l8Lead_any(gb:Nat)(h:Hs)(ds:List Dk)(da:Option Addr)(dc:Nat)(nx:Int)(ps:List Pe)(pa:Option Addr)(pc:Nat)(tk:Int)(rc:Bool)(sh:Int)(oh:h.Ok)(s0:0≤sh)(s1:sh < ds.length)(hld:ds.length≤1048576)(hlp:ps.length≤1048576)(a b:Int × Int × Int)(ha:need8 h ds ps rc sh 0=a)(hb_:need8 h ds ps rc sh 1=b)(w:World)(hG:Blk w gb (gvs h (.slice da ds.length dc) nx (.slice pa ps.length pc) tk rc))(hD:DIn w w.heap.size da ds)(hP:PIn w w.heap.size pa ps) :
  Calls Tryz.prog 64 #[.pointer (some ⟨gb,0,none⟩),I Z sh] w fun e w'=>e=.returned (I Z (lead8 a b))∧Below w.heap.size w w':=by
 have HO:Hid h.Ok:=oh
 have HD:=zH hD
 have HP:=zH hP
 have FG:=zH hG
 have HA:=zH ha
 have HB:=zH hb_
 have FB:Hid (Below w.heap.size w w):=Below.refl _ _
 clear hG hD hP oh ha hb_
 go_enter Tryz.func64,Tryz.ntmps64
 go_upto_region 2 with (first | (go_at_call 65;refine (l8Need_any gb h ds da dc nx ps pa pc tk rc sh 0 HO.out s0 s1 hld hlp a HA.out _ FG.out ((HD.out.below FB.out (Nat.le_refl _)).mono FB.out.size) ((HP.out.below FB.out (Nat.le_refl _)).mono FB.out.size)).mono ?_;rintro e w1 ⟨rfl,hb⟩;have FG:=zH (FG.out.below hb FG.out.lt);have FB:=tB FB hb;clear hb) | (refine store_new [I Z a.1,I Z a.2.1,I Z a.2.2] 97 _ _ (by kernel_rfl) (by kernel_rfl) (by kernel_rfl) rfl rfl rfl rfl ?_))
 obtain ⟨ab,hab⟩:∃ ab,ab=w1.heap.size:=⟨_,rfl⟩
 obtain ⟨W1,hW1⟩:∃ W1,W1=w1.alloc (.cells ([I Z a.1,I Z a.2.1,I Z a.2.2]:List Value).toArray 97):=⟨_,rfl⟩
 have FG:Hid (Blk W1 gb (gvs h (.slice da ds.length dc) nx (.slice pa ps.length pc) tk rc)):=by rw [hW1];exact FG.out.alloc _
 have Nab:Hid (Blk W1 ab [I Z a.1,I Z a.2.1,I Z a.2.2]):=by rw [hW1];exact Blk.at_ w1 ([I Z a.1,I Z a.2.1,I Z a.2.2]:List Value).toArray _ _ hab
 have FB:Hid (Below w.heap.size w W1):=by rw [hW1];exact FB.out.alloc FB.out.size _
 rw [← hW1,← hab]
 clear hW1 hab
 go_upto_region 3 with (first | (go_at_call 65;refine (l8Need_any gb h ds da dc nx ps pa pc tk rc sh 1 HO.out s0 s1 hld hlp b HB.out _ FG.out ((HD.out.below FB.out (Nat.le_refl _)).mono FB.out.size) ((HP.out.below FB.out (Nat.le_refl _)).mono FB.out.size)).mono ?_;rintro e w2 ⟨rfl,hb⟩;have FG:=zH (FG.out.below hb FG.out.lt);have Nab:=zH (Nab.out.below hb Nab.out.lt);have FB:=tB FB hb;clear hb) | (refine store_new [I Z b.1,I Z b.2.1,I Z b.2.2] 97 _ _ (by kernel_rfl) (by kernel_rfl) (by kernel_rfl) rfl rfl rfl rfl ?_))
 obtain ⟨bb,hbb⟩:∃ bb,bb=w2.heap.size:=⟨_,rfl⟩
 obtain ⟨W2,hW2⟩:∃ W2,W2=w2.alloc (.cells ([I Z b.1,I Z b.2.1,I Z b.2.2]:List Value).toArray 97):=⟨_,rfl⟩
 have FG:Hid (Blk W2 gb (gvs h (.slice da ds.length dc) nx (.slice pa ps.length pc) tk rc)):=by rw [hW2];exact FG.out.alloc _
 have Nab:Hid (Blk W2 ab [I Z a.1,I Z a.2.1,I Z a.2.2]):=by rw [hW2];exact Nab.out.alloc _
 have Nbb:Hid (Blk W2 bb [I Z b.1,I Z b.2.1,I Z b.2.2]):=by rw [hW2];exact Blk.at_ w2 ([I Z b.1,I Z b.2.1,I Z b.2.2]:List Value).toArray _ _ hbb
 have FB:Hid (Below w.heap.size w W2):=by rw [hW2];exact FB.out.alloc FB.out.size _
 rw [← hW2,← hbb]
 clear hW2 hbb
 have a0:=Nab.out.c 0 _ rfl
 have a1:=Nab.out.c 1 _ rfl
 have b0:=Nbb.out.c 0 _ rfl
 have b1:=Nbb.out.c 1 _ rfl
 obtain ⟨ak,ai,af⟩:=a
 obtain ⟨bk,bi,bf⟩:=b
 dsimp only at a0 a1 b0 b1
 obtain ⟨v,hv⟩:∃ v,lead8 (ak,ai,af) (bk,bi,bf)=v:=⟨_,rfl⟩
 have HV:=zH hv
 clear hv
 by_cases k1:ak=0 <;> by_cases k2:bk=0 <;> by_cases k3:ai < bi
 all_goals
  have q1:(ak != 0)=decide (ak ≠ 0):=by by_cases z:ak=0 <;> simp [z]
  have q2:(bk != 0)=decide (bk ≠ 0):=by by_cases z:bk=0 <;> simp [z]
  have q3:(ak == 0)=decide (ak=0):=by by_cases z:ak=0 <;> simp [z]
  have e0:lead8 (ak,ai,af) (bk,bi,bf)=lead8 (ak,ai,af) (bk,bi,bf):=rfl
  unfold lead8 at e0
  simp [k1,k2,k3] at e0
  have HE:Hid _:=e0
  clear e0
  simp [k1] at q1 q3
  simp [k2] at q2
  go_wp2_with fail
  go_ret
  exact ⟨ret_int (by first | exact HE.out | exact HE.out.symm | (unfold lead8;simp [k1,k2,k3])),FB.out⟩
end Go.Proofs.YteimojoicfjdjaaGreat
namespace Go.Proofs.YteimojoicfjdjaaGreat
open Go.RowKit Pl
set_option linter.unusedSimpArgs false
set_option linter.unusedVariables false
end Go.Proofs.YteimojoicfjdjaaGreat
