/- Parts of the proof: NeI. -/
import Derived.Test.YteimojoicfjdjaaGreatZ21
import Derived.Test.YteimojoicfjdjaaGreatZ28
import Derived.Test.YteimojoicfjdjaaGreatZ35
import Derived.Test.YteimojoicfjdjaaGreatZ42
import Derived.Test.YteimojoicfjdjaaGreatZ43
import Derived.BigGuardPart
import Derived.Deep.DeepCutAuto
namespace Go.Proofs.YteimojoicfjdjaaGreat
set_option maxRecDepth 20000
set_option maxHeartbeats 32000000
open Value renaming int → I
open IntKind renaming i64 → Z
open Go.RowKit Pl
set_option linter.unusedSimpArgs false
set_option linter.unusedVariables false
theorem carOf_any(s:Sh)(ca:Int)(h0:0≤ca)(h1:ca≤1)(w:World) :
  Calls Tryz.prog 176 #[.agg #[I Z s.lo.pos,I Z s.lo.vel,I Z s.lo.door,I Z s.up.pos,I Z s.up.vel,I Z s.up.door],I Z ca] w fun e w'=>e=.returned (.agg #[I Z (carAt s ca).pos,I Z (carAt s ca).vel,I Z (carAt s ca).door])∧Below w.heap.size w w':=by
 have F0:Hid (Blk ((w.alloc (.cells #[I Z s.lo.pos,I Z s.lo.vel,I Z s.lo.door,I Z s.up.pos,I Z s.up.vel,I Z s.up.door] 67)).alloc (.cells #[I Z 0,I Z 0,I Z 0] 65)) w.heap.size [I Z s.lo.pos,I Z s.lo.vel,I Z s.lo.door,I Z s.up.pos,I Z s.up.vel,I Z s.up.door]):=(Blk.at_ w #[I Z s.lo.pos,I Z s.lo.vel,I Z s.lo.door,I Z s.up.pos,I Z s.up.vel,I Z s.up.door] _ _ rfl).alloc _
 have F1:Hid (Blk ((w.alloc (.cells #[I Z s.lo.pos,I Z s.lo.vel,I Z s.lo.door,I Z s.up.pos,I Z s.up.vel,I Z s.up.door] 67)).alloc (.cells #[I Z 0,I Z 0,I Z 0] 65)) (w.heap.size + 1) [I Z 0,I Z 0,I Z 0]):=Blk.at_ _ #[I Z 0,I Z 0,I Z 0] _ _ (by simp)
 have FB:Hid (Below w.heap.size w ((w.alloc (.cells #[I Z s.lo.pos,I Z s.lo.vel,I Z s.lo.door,I Z s.up.pos,I Z s.up.vel,I Z s.up.door] 67)).alloc (.cells #[I Z 0,I Z 0,I Z 0] 65))):=((Below.refl _ _).alloc (Nat.le_refl _) _).alloc (by simp) _
 obtain ⟨W0,hW0⟩:∃ W0,W0=((w.alloc (.cells #[I Z s.lo.pos,I Z s.lo.vel,I Z s.lo.door,I Z s.up.pos,I Z s.up.vel,I Z s.up.door] 67)).alloc (.cells #[I Z 0,I Z 0,I Z 0] 65)):=⟨_,rfl⟩
 rw [← hW0] at F0 F1 FB
 have HW0:=zH hW0
 clear hW0
 have kc:ca=0 ∨ ca=1:=by omega
 clear h0 h1
 rcases kc with k | k
 ·subst k
  have i0:∀ w:World,(Instr.index 219 (.agg #[I Z s.lo.pos,I Z s.lo.vel,I Z s.lo.door,I Z s.up.pos,I Z s.up.vel,I Z s.up.door]) (I Z 0)).run Tryz.prog w=.ok (.agg #[I Z s.lo.pos,I Z s.lo.vel,I Z s.lo.door]) w:=fun w=>by kernel_rfl
  go_enter Tryz.func176,Tryz.ntmps176
  go_upto_region 1 with fail
  rw [← HW0.out]
  obtain ⟨x0,x1,x2,x3,x4,x5⟩:=F0.out.c6
  go_wp2_with (refine store_blk [I Z s.lo.pos,I Z s.lo.vel,I Z s.lo.door] 65 _ _ (by kernel_rfl) (by kernel_rfl) (by kernel_rfl) F1.out rfl rfl rfl rfl ?_)
  exact bodyPost_ret (v:=.agg #[I Z s.lo.pos,I Z s.lo.vel,I Z s.lo.door]) ((F1.out.row [I Z s.lo.pos,I Z s.lo.vel,I Z s.lo.door]).res _ Tryz.results176 Tryz.underlying65 (by kernel_rfl) rfl) rfl ⟨rfl,below_row FB.out (by omega) _⟩
 ·subst k
  have i0:∀ w:World,(Instr.index 219 (.agg #[I Z s.lo.pos,I Z s.lo.vel,I Z s.lo.door,I Z s.up.pos,I Z s.up.vel,I Z s.up.door]) (I Z 1)).run Tryz.prog w=.ok (.agg #[I Z s.up.pos,I Z s.up.vel,I Z s.up.door]) w:=fun w=>by kernel_rfl
  go_enter Tryz.func176,Tryz.ntmps176
  go_upto_region 1 with fail
  rw [← HW0.out]
  obtain ⟨x0,x1,x2,x3,x4,x5⟩:=F0.out.c6
  go_wp2_with (refine store_blk [I Z s.up.pos,I Z s.up.vel,I Z s.up.door] 65 _ _ (by kernel_rfl) (by kernel_rfl) (by kernel_rfl) F1.out rfl rfl rfl rfl ?_)
  exact bodyPost_ret (v:=.agg #[I Z s.up.pos,I Z s.up.vel,I Z s.up.door]) ((F1.out.row [I Z s.up.pos,I Z s.up.vel,I Z s.up.door]).res _ Tryz.results176 Tryz.underlying65 (by kernel_rfl) rfl) rfl ⟨rfl,below_row FB.out (by omega) _⟩
theorem rid_w(sh ca:Int)(p:Pe):isW 1 sh ca p=ridB sh ca p:=by
 unfold isW ridB
 cases (p.st == 1) <;> cases (p.sh == sh) <;> cases (p.ca == ca) <;> rfl
theorem rec_riders(h:Hs)(ps:List Pe)(s:Sh)(sh ca:Int):rec8 h ps s sh ca=(match riders sh ca ps with | []=>(4,0,0) | i :: _=>(0,i,floor8 h (carAt s ca))):=by
 have e:isW 1 sh ca=ridB sh ca:=funext (rid_w sh ca)
 unfold rec8 riders
 rw [e,← List.head?_filter]
 cases ps.filter (ridB sh ca) with
 | nil=>rfl
 | cons p l=>rfl
theorem needIn_any(h:Hs)(ds:List Dk)(da:Option Addr)(dc:Nat)(nx:Int)(ps:List Pe)(pa:Option Addr)(pc:Nat)(tk:Int)(rc:Bool)(sh ca:Int)(gf:Gr.fault ⟨h,ds,⟨nx,ps⟩,tk,rc⟩=0)(s0:0≤sh)(s1:sh < ds.length)(c0:0≤ca)(c1:ca≤1)(hld:ds.length≤1048576)(hlp:ps.length≤1048576)(w:World)(hD:DIn w w.heap.size da ds)(hP:PIn w w.heap.size pa ps) :
  Calls Tryz.prog 137 #[.agg #[I Z h.fl,I Z h.gp,I Z h.ln,I Z h.rf,I Z h.sp,I Z h.pu,I Z h.br,I Z h.dr,I Z h.lv,I Z h.dO,I Z h.ld,I Z h.qu,.slice da ds.length dc,I Z nx,.slice pa ps.length pc,I Z tk,.bool rc],I Z sh,I Z ca] w fun e w'=>e=.returned (.agg #[I Z (need8 h ds ps rc sh ca).1,I Z (need8 h ds ps rc sh ca).2.1,I Z (need8 h ds ps rc sh ca).2.2])∧Below w.heap.size w w':=by
 have HD:=zH hD
 have HP:=zH hP
 have F0:Hid (Blk ((w.alloc (.cells #[I Z h.fl,I Z h.gp,I Z h.ln,I Z h.rf,I Z h.sp,I Z h.pu,I Z h.br,I Z h.dr,I Z h.lv,I Z h.dO,I Z h.ld,I Z h.qu,.slice da ds.length dc,I Z nx,.slice pa ps.length pc,I Z tk,.bool rc] 37)).alloc (.cells #[I Z 0,I Z 0,I Z 0] 97)) w.heap.size (gvs h (.slice da ds.length dc) nx (.slice pa ps.length pc) tk rc)):=(Blk.at_ w #[I Z h.fl,I Z h.gp,I Z h.ln,I Z h.rf,I Z h.sp,I Z h.pu,I Z h.br,I Z h.dr,I Z h.lv,I Z h.dO,I Z h.ld,I Z h.qu,.slice da ds.length dc,I Z nx,.slice pa ps.length pc,I Z tk,.bool rc] _ _ rfl).alloc _
 have F1:Hid (Blk ((w.alloc (.cells #[I Z h.fl,I Z h.gp,I Z h.ln,I Z h.rf,I Z h.sp,I Z h.pu,I Z h.br,I Z h.dr,I Z h.lv,I Z h.dO,I Z h.ld,I Z h.qu,.slice da ds.length dc,I Z nx,.slice pa ps.length pc,I Z tk,.bool rc] 37)).alloc (.cells #[I Z 0,I Z 0,I Z 0] 97)) (w.heap.size + 1) [I Z 0,I Z 0,I Z 0]):=Blk.at_ _ #[I Z 0,I Z 0,I Z 0] _ _ (by simp)
 have FB:Hid (Below w.heap.size w ((w.alloc (.cells #[I Z h.fl,I Z h.gp,I Z h.ln,I Z h.rf,I Z h.sp,I Z h.pu,I Z h.br,I Z h.dr,I Z h.lv,I Z h.dO,I Z h.ld,I Z h.qu,.slice da ds.length dc,I Z nx,.slice pa ps.length pc,I Z tk,.bool rc] 37)).alloc (.cells #[I Z 0,I Z 0,I Z 0] 97))):=((Below.refl _ _).alloc (Nat.le_refl _) _).alloc (by simp) _
 obtain ⟨W0,hW0⟩:∃ W0,W0=((w.alloc (.cells #[I Z h.fl,I Z h.gp,I Z h.ln,I Z h.rf,I Z h.sp,I Z h.pu,I Z h.br,I Z h.dr,I Z h.lv,I Z h.dO,I Z h.ld,I Z h.qu,.slice da ds.length dc,I Z nx,.slice pa ps.length pc,I Z tk,.bool rc] 37)).alloc (.cells #[I Z 0,I Z 0,I Z 0] 97)):=⟨_,rfl⟩
 rw [← hW0] at F0 F1 FB
 have HW0:=zH hW0
 clear hW0 hD hP
 obtain ⟨hf,nn,hdk,hle,-⟩:=Gr.fault_parts gf
 dsimp only at hf nn hdk hle
 have oo:=Hs.ok_of (Hs.fault_zero hf).1
 have HO:Hid h.Ok:=oo
 clear gf
 obtain ⟨r,hr⟩:∃ r,need8 h ds ps rc sh ca=r:=⟨_,rfl⟩
 rw [hr]
 unfold need8 at hr
 cases rc
 ·have HR:Hid (Hs.needK h ⟨nx,ps⟩ sh ca=r):=by
   rw [if_neg (by simp)] at hr
   rw [← hr]
   unfold Hs.needK
   have f1:=oo.fl1
   have ka:Hs.askd h ⟨nx,ps⟩ sh ca 0=0:=by
    unfold Hs.askd
    rw [if_pos hle,if_pos ⟨by unfold carB;rw [inB_yes s0 (by omega),inB_yes c0 c1];rfl,inB_yes (Int.le_refl _) (by omega)⟩]
   rw [if_pos ka]
   exact rfl
  clear hr hdk hle oo hf
  go_enter Tryz.func137,Tryz.ntmps137
  go_upto_region 1 with fail
  rw [← HW0.out]
  obtain ⟨x0,x1,x2,x3,x4,x5,x6,x7,x8,x9,x10,x11,x12,x13,x14,x15,x16⟩:=F0.out.c17
  go_wp2_with (first | (go_at_call 174;refine (implNeedOf_any h ⟨nx,ps⟩ sh ca pa pc hlp _ ((HP.out.below FB.out (Nat.le_refl _)).mono FB.out.size)).mono ?_;rw [HR.out];rintro e w1 ⟨rfl,hb⟩;have F0:=bB F0 hb;have F1:=bB F1 hb;have FB:=tB FB hb;clear hb) | (refine store_blk [I Z r.1,I Z r.2.1,I Z r.2.2] 97 _ _ (by kernel_rfl) (by kernel_rfl) (by kernel_rfl) F1.out rfl rfl rfl rfl ?_))
  exact bodyPost_ret (v:=.agg #[I Z r.1,I Z r.2.1,I Z r.2.2]) ((F1.out.row [I Z r.1,I Z r.2.1,I Z r.2.2]).res _ Tryz.results137 Tryz.underlying97 (by kernel_rfl) rfl) rfl ⟨rfl,below_row FB.out (by omega) _⟩
 ·obtain ⟨n,hn⟩:∃ n:Nat,sh=(n:Int):=⟨sh.toNat,by omega⟩
  subst hn
  obtain ⟨d,hd⟩:∃ d,ds[n]? = some d:=⟨_,List.getElem?_eq_getElem (by omega)⟩
  have HR:Hid (rec8 h ps d.sh (n:Int) ca=r):=by
   rw [if_pos rfl] at hr
   unfold shOf at hr
   rw [Int.toNat_natCast,hd] at hr
   exact hr
  have HK:Hid (CarOk h (carAt d.sh ca)):=by
   have q:=decks_zero hdk n d hd
   unfold Hs.deck at q
   split at q
   case isFalse z=>exact absurd q z
   case isTrue z=>
    obtain ⟨k1,k2,_⟩:=shaft_parts z
    unfold carAt
    split
    ·exact Hs.car_zero k1
    ·exact Hs.car_zero k2
  rcases HD.out with hz | ⟨b',o',ha,hbl',h13⟩
  ·rw [hz] at s1;simp at s1;omega
  subst ha
  have HE:Hid (D13 w b' (o' + n * 13) d):=h13 n d hd
  have HBL:Hid (b' < w.heap.size):=hbl'
  clear h13 hd hr hdk hle oo hf
  go_enter Tryz.func137,Tryz.ntmps137
  go_upto_region 1 with fail
  rw [← HW0.out]
  obtain ⟨x0,x1,x2,x3,x4,x5,x6,x7,x8,x9,x10,x11,x12,x13,x14,x15,x16⟩:=F0.out.c17
  go_upto_region 4 with (go_at_call 175;refine (ridersIn_any ps pa pc (n:Int) ca hlp _ ((HP.out.below FB.out (Nat.le_refl _)).mono FB.out.size)).mono ?_;rintro e w1 ⟨v,rfl,ho,hb⟩;have FC:=zH (ho.base FB.out.size);have lv:∀ k,v.ownBlock=some k→w.heap.size + 1 < k:=fun k hk=>Nat.lt_of_lt_of_le F1.out.lt (ho.lt k hk).1;clear ho;have F0:=bB F0 hb;have F1:=bB F1 hb;have FB:=tB FB hb;clear hb)
  have HRR:Hid ((match riders (n:Int) ca ps with | []=>(4,0,0) | i :: _=>(0,i,floor8 h (carAt d.sh ca)))=r):=by rw [← rec_riders];exact HR.out
  obtain ⟨rl,hrl⟩:∃ rl,riders (n:Int) ca ps=rl:=⟨_,rfl⟩
  rw [hrl] at FC HRR
  clear hrl HR
  cases rl with
  | nil=>
   have er:r=(4,0,0):=HRR.out.symm
   subst er
   obtain ⟨a,cap,rfl⟩:=FC.out.sl
   clear HRR FC lv
   go_wp2_with (refine store_blk [I Z 4,I Z 0,I Z 0] 97 _ _ (by kernel_rfl) (by kernel_rfl) (by kernel_rfl) F1.out rfl rfl rfl rfl ?_)
   exact bodyPost_ret (v:=.agg #[I Z 4,I Z 0,I Z 0]) ((F1.out.row [I Z 4,I Z 0,I Z 0]).res _ Tryz.results137 Tryz.underlying97 (by kernel_rfl) rfl) rfl ⟨rfl,below_row FB.out (by omega) _⟩
  | cons i l=>
   have er:r=(0,i,floor8 h (carAt d.sh ca)):=HRR.out.symm
   subst er
   rcases FC.out.cases with ⟨_,hz⟩ | ⟨rg,rcap,rfl⟩
   ·cases hz
   have lr:=lv rg rfl
   have ll:¬ ((((i :: l).length:Nat):Int)=0):=by simp;omega
   have lz:((((i :: l).length:Nat):Int) == 0)=false:=by simp;omega
   clear HRR lv
   have FE:Hid (D13 w1 b' (o' + n * 13) d):=HE.out.below FB.out HBL.out
   go_upto_region 6 with fail
   have F0:=zH (F0.out.below (Below.refl _ _).drew F0.out.lt)
   have F1:=zH (F1.out.below (Below.refl _ _).drew F1.out.lt)
   have FC:=zH (FC.out.drew)
   have FE:=zH (FE.out.below (Below.refl _ _).drew FE.out.lt)
   have FB:=zH (FB.out.drew)
   obtain ⟨x0,x1,x2,x3,x4,x5,x6,x7,x8,x9,x10,x11,x12,x13,x14,x15,x16⟩:=F0.out.c17
   have ri:=FC.out.cell (i:=0) rfl
   have dd0:=FE.out.c0
   have dd1:=FE.out.c1
   have dd2:=FE.out.c2
   have dd3:=FE.out.c3
   have dd4:=FE.out.c4
   have dd5:=FE.out.c5
   refine wp_region_held_drew (S:=(fun w''=>hS w.heap.size h w''∧w''.cell? ⟨w.heap.size,12,none⟩=some (.slice (some ⟨b',o',none⟩) ds.length dc)∧w''.cell? ⟨w.heap.size,13,none⟩=some (I Z nx)∧w''.cell? ⟨w.heap.size,14,none⟩=some (.slice pa ps.length pc)∧w''.cell? ⟨w.heap.size,15,none⟩=some (I Z tk)∧w''.cell? ⟨w.heap.size,16,none⟩=some (.bool true)∧w''.cell? ⟨rg,0,none⟩=some (I Z i)∧w''.cell? ⟨b',o' + n * 13,none⟩=some (I Z d.sh.lo.pos)∧w''.cell? ⟨b',o' + n * 13 + 1,none⟩=some (I Z d.sh.lo.vel)∧w''.cell? ⟨b',o' + n * 13 + 2,none⟩=some (I Z d.sh.lo.door)∧w''.cell? ⟨b',o' + n * 13 + 3,none⟩=some (I Z d.sh.up.pos)∧w''.cell? ⟨b',o' + n * 13 + 4,none⟩=some (I Z d.sh.up.vel)∧w''.cell? ⟨b',o' + n * 13 + 5,none⟩=some (I Z d.sh.up.door))) (by kernel_rfl) (by ((try dsimp only);(try simp only [hS]);first | ((repeat' apply And.intro) <;> assumption) | go_keep)) (fun hHeld=>?_)
   obtain ⟨v_3,hw1⟩:∃ v_3,v_3=w1.drew:=⟨_,rfl⟩
   rw [← hw1] at F0 F1 FC FE FB hHeld ⊢
   clear hw1
   obtain ⟨x0,x1,x2,x3,x4,x5,x6,x7,x8,x9,x10,x11,x12,x13,x14,x15,x16⟩:=F0.out.c17
   have ri:=FC.out.cell (i:=0) rfl
   have dd0:=FE.out.c0
   have dd1:=FE.out.c1
   have dd2:=FE.out.c2
   have dd3:=FE.out.c3
   have dd4:=FE.out.c4
   have dd5:=FE.out.c5
   refine tkz 0 rfl ?_
   refine tkz 1 rfl ?_
   refine tkz 2 rfl ?_
   refine tkz 3 rfl ?_
   refine tkz 4 rfl ?_
   refine tkz 5 rfl ?_
   refine tkz 6 rfl ?_
   refine tkz 7 rfl ?_
   refine tkz 8 rfl ?_
   refine tkz 9 rfl ?_
   refine tkz 10 rfl ?_
   refine tkz 11 rfl ?_
   refine rd1 12 (fun K hK=>?_)
   go_simp
   refine (carOf_any d.sh ca c0 c1 _).mono ?_
   rintro e v_4 ⟨rfl,hb⟩
   have F0:=bB F0 hb
   have F1:=bB F1 hb
   have FC:=zH (FC.out.below hb (fun k hk=>(FC.out.lt k hk).2))
   have FE:=zH (FE.out.below hb FE.out.lt)
   have FB:=tB FB hb
   clear hb
   obtain ⟨x0,x1,x2,x3,x4,x5,x6,x7,x8,x9,x10,x11,x12,x13,x14,x15,x16⟩:=F0.out.c17
   have ri:=FC.out.cell (i:=0) rfl
   have dd0:=FE.out.c0
   have dd1:=FE.out.c1
   have dd2:=FE.out.c2
   have dd3:=FE.out.c3
   have dd4:=FE.out.c4
   have dd5:=FE.out.c5
   try dsimp only
   refine kp hK (fun hHeld=>?_)
   clear hK K
   refine rd1 13 (fun K hK=>?_)
   go_simp
   refine (stopOf_any h HO.out (carAt d.sh ca) HK.out _).mono ?_
   rintro e v_5 ⟨rfl,hb⟩
   have F0:=bB F0 hb
   have F1:=bB F1 hb
   have FC:=zH (FC.out.below hb (fun k hk=>(FC.out.lt k hk).2))
   have FE:=zH (FE.out.below hb FE.out.lt)
   have FB:=tB FB hb
   clear hb
   obtain ⟨x0,x1,x2,x3,x4,x5,x6,x7,x8,x9,x10,x11,x12,x13,x14,x15,x16⟩:=F0.out.c17
   have ri:=FC.out.cell (i:=0) rfl
   have dd0:=FE.out.c0
   have dd1:=FE.out.c1
   have dd2:=FE.out.c2
   have dd3:=FE.out.c3
   have dd4:=FE.out.c4
   have dd5:=FE.out.c5
   try dsimp only
   refine kp hK (fun hHeld=>?_)
   clear hK K
   refine tkz 14 rfl ?_
   refine rd1 15 (fun K hK=>?_)
   obtain ⟨z0,z1,z2⟩:=F1.out.c3
   have zf0:=F1.out.f 0 (Nat.le_of_ble_eq_true rfl)
   have zf1:=F1.out.f 1 (Nat.le_of_ble_eq_true rfl)
   have zf2:=F1.out.f 2 (Nat.le_of_ble_eq_true rfl)
   go_simp
   obtain ⟨v_6,hw2⟩:∃ v_6,v_6=putB v_5 (w.heap.size + 1) 0 [I Z 0,I Z i,I Z (floor8 h (carAt d.sh ca))]:=⟨_,rfl⟩
   change K _ (putB v_5 (w.heap.size + 1) 0 [I Z 0,I Z i,I Z (floor8 h (carAt d.sh ca))])
   rw [← hw2]
   clear z0 z1 z2 zf0 zf1 zf2
   have F0:Hid (Blk v_6 w.heap.size (gvs h (.slice (some ⟨b',o',none⟩) ds.length dc) nx (.slice pa ps.length pc) tk true)):=by rw [hw2];exact Blk.putB_other (by omega) [I Z 0,I Z i,I Z (floor8 h (carAt d.sh ca))] 0 F0.out
   have F1:Hid (Blk v_6 (w.heap.size + 1) [I Z 0,I Z i,I Z (floor8 h (carAt d.sh ca))]):=by rw [hw2];exact F1.out.put [I Z 0,I Z i,I Z (floor8 h (carAt d.sh ca))] rfl
   have FC:Hid (OwI v_6 w.heap.size (.slice (some ⟨rg,0,none⟩) (i :: l).length rcap) (i :: l)):=by rw [hw2];exact (((FC.out.other (p:=⟨w.heap.size + 1,0,none⟩) (fun e=>by have q:rg=w.heap.size + 1:=Option.some.inj e;omega) _).other (p:=⟨w.heap.size + 1,1,none⟩) (fun e=>by have q:rg=w.heap.size + 1:=Option.some.inj e;omega) _).other (p:=⟨w.heap.size + 1,2,none⟩) (fun e=>by have q:rg=w.heap.size + 1:=Option.some.inj e;omega) _)
   have FE:Hid (D13 v_6 b' (o' + n * 13) d):=by rw [hw2];exact FE.out.below (below_putB (Below.refl (w.heap.size + 1) _) (Nat.le_refl _) [I Z 0,I Z i,I Z (floor8 h (carAt d.sh ca))] 0) (by omega)
   have FB:Hid (Below w.heap.size w v_6):=by rw [hw2];exact below_putB FB.out (by omega) _ _
   clear hw2
   obtain ⟨x0,x1,x2,x3,x4,x5,x6,x7,x8,x9,x10,x11,x12,x13,x14,x15,x16⟩:=F0.out.c17
   have ri:=FC.out.cell (i:=0) rfl
   have dd0:=FE.out.c0
   have dd1:=FE.out.c1
   have dd2:=FE.out.c2
   have dd3:=FE.out.c3
   have dd4:=FE.out.c4
   have dd5:=FE.out.c5
   refine kp hK (fun hHeld=>?_)
   clear hK K
   refine wpAnyH_done (by kernel_rfl) ?_ _
   go_wp2_with fail
   exact bodyPost_ret (v:=.agg #[I Z 0,I Z i,I Z (floor8 h (carAt d.sh ca))]) (F1.out.res _ Tryz.results137 Tryz.underlying97 (by kernel_rfl) rfl) rfl ⟨rfl,FB.out⟩
end Go.Proofs.YteimojoicfjdjaaGreat
