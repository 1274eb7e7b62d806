/- Parts of the proof: XLt. -/
import Derived.Test.YteimojoicfjdjaaGreatZ48
import Derived.Test.YteimojoicfjdjaaGreatZ49
import Derived.BigGuardPart
import Derived.Deep.DeepCutAuto
namespace Go.Proofs.YteimojoicfjdjaaGreat
set_option maxRecDepth 20000
set_option maxHeartbeats 16000000
open Value renaming int → I
open IntKind renaming i64 → Z
open Go.RowKit Pl Sx
set_option linter.unusedVariables false
set_option linter.unusedSimpArgs false
def pass8(h:Hs)(rc:Bool)(sh ca fl:Int)(ps:List Pe):List Pe:=if rc=true then ps.map (outP sh ca fl) else boardS h.ld sh ca fl (ps.map (alightP sh ca fl)) ps.length
theorem implBoardAt_n(h:Hs)(nx:Int)(l:List Pe)(n:Nat)(hn:l.length=n)(sh ca fl:Int)(b cap:Nat)(hl:n≤1048576)(hk:Hs.askd h ⟨nx,l⟩ sh ca fl=0)(w:World)(hb:b < w.heap.size)(hP:∀ i p,l[i]? = some p→P7 w b (i * 7) p) :
  Calls Tryz.prog 188 #[hv h,.agg #[I Z nx,.slice (some ⟨b,0,none⟩) n cap],I Z sh,I Z ca,I Z fl] w (isLedG w nx n (boardS h.ld sh ca fl l n)):=by
 subst hn
 exact implBoardAt_g h ⟨nx,l⟩ sh ca fl b 0 cap hl hk w hb (fun i p e=>by rw [Nat.zero_add];exact hP i p e)
theorem letPass_g(h:Hs)(tb gb g1 i B c1 g2 c2:Nat)(t:Tn)(ds:List Dk)(nx:Int)(ps:List Pe)(tk:Int)(rc:Bool)(ca fl:Int)(q1:tb ≠ gb)(hl:ps.length≤1048576)(k1:Hs.askd h ⟨nx,ps⟩ t.z ca fl=0)(k2:rc=false→Hs.askd h ⟨nx,ps.map (alightP t.z ca fl)⟩ t.z ca fl=0)(w w0:World)(T:Blk w tb (tPh gb g1 i t))(G:Gs w w0 B gb g1 c1 g2 c2 h ds nx ps tk rc) :
  Calls Tryz.prog 148 #[.pointer (some ⟨tb,0,none⟩),I Z ca,I Z fl] w fun e w'=>e=.returned (.tuple #[])∧∃ p c W1,Below w.heap.size w W1∧Ow W1 w.heap.size p ps.length c (pass8 h rc t.z ca fl ps)∧w'=putB W1 gb 13 [I Z nx,.slice (some ⟨p,0,none⟩) ps.length c]:=by
 have LT:Hid (tb < w.heap.size∧gb < w.heap.size):=⟨T.lt,G.f.lt⟩
 have X0:Hid (w.cell? ⟨tb,0,none⟩=some (.pointer (some ⟨gb,0,none⟩))):=T.c 0 _ rfl
 have X2:Hid (w.cell? ⟨tb,2,none⟩=some (I Z t.z)):=T.c 2 _ rfl
 have Y13:Hid (w.cell? ⟨gb,13,none⟩=some (I Z nx)):=G.f.c 13 _ rfl
 have Y14:Hid (w.cell? ⟨gb,14,none⟩=some (.slice (some ⟨g2,0,none⟩) ps.length c2)):=G.f.c 14 _ rfl
 have Y16:Hid (w.cell? ⟨gb,16,none⟩=some (.bool rc)):=G.f.c 16 _ rfl
 have Z13:Hid (w.frozen? ⟨gb,13,none⟩=false):=G.f.f 13 (by simp)
 have Z14:Hid (w.frozen? ⟨gb,14,none⟩=false):=G.f.f 14 (by simp)
 have Y:Hid (∀ k v,(hRow h)[k]? = some v→w.cell? ⟨gb,k,none⟩=some v):=fun k v e=>G.f.c k v (by
  have hk:k < 12:=(List.getElem?_eq_some_iff.1 e).1
  match k,hk with
  | 0,_ | 1,_ | 2,_ | 3,_ | 4,_ | 5,_ | 6,_ | 7,_ | 8,_ | 9,_ | 10,_ | 11,_=>exact e)
 have HO:Hid (Ow w B g2 ps.length c2 ps):=G.p
 have LT2:Hid (g2 < w.heap.size):=G.p.bl.2
 have K1:=zH k1
 have K2:=zH k2
 have FT:=zH T
 have FB:Hid (Below w.heap.size w w):=Below.refl _ _
 clear T G k1 k2
 go_enter Tryz.func148,Tryz.ntmps148
 go_upto_region 0 with fail
 go_cut [6,7] (fun p q wx=>∃ b6 b7,p=.pointer (some ⟨b6,0,none⟩)∧q=.pointer (some ⟨b7,0,none⟩)∧w.heap.size≤b6∧w.heap.size≤b7∧b6 ≠ b7∧Blk wx b6 (hRow h)∧Blk wx b7 [I Z nx,.slice (some ⟨g2,0,none⟩) ps.length c2]∧Below w.heap.size w wx)
 case first=>
  have FB:=zH (FB.out.drew)
  have m0:=(FB.out.cell (p:=⟨tb,0,none⟩) LT.out.1).trans X0.out
  have m1:=(FB.out.cell (p:=⟨gb,13,none⟩) LT.out.2).trans Y13.out
  have m2:=(FB.out.cell (p:=⟨gb,14,none⟩) LT.out.2).trans Y14.out
  refine wp_region_held_drew (S:=(fun w''=>w''.cell? ⟨tb,0,none⟩=some (.pointer (some ⟨gb,0,none⟩))∧w''.cell? ⟨gb,13,none⟩=some (I Z nx)∧w''.cell? ⟨gb,14,none⟩=some (.slice (some ⟨g2,0,none⟩) ps.length c2))) (by kernel_rfl) (by (try dsimp only);first | exact ⟨m0,m1,m2⟩ | go_keep) (fun hHeld=>?_)
  obtain ⟨v_1,hw1⟩:∃ v_1,v_1=w.drew:=⟨_,rfl⟩
  rw [← hw1] at FB hHeld ⊢
  clear hw1
  have m0:=(FB.out.cell (p:=⟨tb,0,none⟩) LT.out.1).trans X0.out
  have m1:=(FB.out.cell (p:=⟨gb,13,none⟩) LT.out.2).trans Y13.out
  have m2:=(FB.out.cell (p:=⟨gb,14,none⟩) LT.out.2).trans Y14.out
  refine tkz 0 rfl ?_
  refine tkz 2 rfl ?_
  refine tkz 3 rfl ?_
  refine tkz 4 rfl ?_
  refine tkz 5 rfl ?_
  refine tkz 6 rfl ?_
  refine tkz 7 rfl ?_
  refine tkz 8 rfl ?_
  refine wpAnyH_ready (rs:=[1,9,10]) (by kernel_rfl) (by simp) ?_
  refine (AllReadyH.cons rfl (fun K hK=>?_) (AllReadyH.cons rfl (fun K hK=>?_) (AllReadyH.cons rfl (fun K hK=>?_) AllReadyH.nil)))
  ·go_simp
   refine (house_any tb gb h _ ((FB.out.cell (p:=⟨tb,0,none⟩) LT.out.1).trans X0.out) (fun k v e=>(FB.out.cell (p:=⟨gb,k,none⟩) LT.out.2).trans (Y.out k v e))).mono ?_
   rintro e v_2 ⟨rfl,hb⟩
   have FB:=tB FB hb
   clear hb
   have m0:=(FB.out.cell (p:=⟨tb,0,none⟩) LT.out.1).trans X0.out
   have m1:=(FB.out.cell (p:=⟨gb,13,none⟩) LT.out.2).trans Y13.out
   have m2:=(FB.out.cell (p:=⟨gb,14,none⟩) LT.out.2).trans Y14.out
   try dsimp only
   refine kp hK (fun hHeld=>?_)
   clear hK K
   refine wpAnyH_ready (rs:=[9,10]) (by kernel_rfl) (by simp) ?_
   refine (AllReadyH.cons rfl (fun K hK=>?_) (AllReadyH.cons rfl (fun K hK=>?_) AllReadyH.nil))
   ·go_simp
    obtain ⟨b6,hbb⟩:∃ b6,b6=v_2.heap.size:=⟨_,rfl⟩
    obtain ⟨v_3,hw2⟩:∃ v_3,v_3=v_2.alloc (.cells #[I Z 0,I Z 0,I Z 0,I Z 0,I Z 0,I Z 0,I Z 0,I Z 0,I Z 0,I Z 0,I Z 0,I Z 0] 31):=⟨_,rfl⟩
    have sz:=FB.out.size
    rw [← hbb] at sz
    have F6:Hid (Blk v_3 b6 [I Z 0,I Z 0,I Z 0,I Z 0,I Z 0,I Z 0,I Z 0,I Z 0,I Z 0,I Z 0,I Z 0,I Z 0]):=by rw [hw2];exact Blk.at_ v_2 #[I Z 0,I Z 0,I Z 0,I Z 0,I Z 0,I Z 0,I Z 0,I Z 0,I Z 0,I Z 0,I Z 0,I Z 0] _ _ hbb
    have FB:Hid (Below w.heap.size w v_3):=by rw [hw2];exact FB.out.alloc FB.out.size _
    rw [← hw2,← hbb]
    clear hbb hw2
    have m0:=(FB.out.cell (p:=⟨tb,0,none⟩) LT.out.1).trans X0.out
    have m1:=(FB.out.cell (p:=⟨gb,13,none⟩) LT.out.2).trans Y13.out
    have m2:=(FB.out.cell (p:=⟨gb,14,none⟩) LT.out.2).trans Y14.out
    refine kp hK (fun hHeld=>?_)
    clear hK K
    refine rd1 10 (fun K hK=>?_)
    go_simp
    obtain ⟨b7,hbb⟩:∃ b7,b7=v_3.heap.size:=⟨_,rfl⟩
    obtain ⟨v_4,hw2⟩:∃ v_4,v_4=v_3.alloc (.cells #[I Z 0,.slice none 0 0] 35):=⟨_,rfl⟩
    have sz:=FB.out.size
    rw [← hbb] at sz
    have nb7_1:=F6.out.lt
    rw [← hbb] at nb7_1
    have F7:Hid (Blk v_4 b7 [I Z 0,.slice none 0 0]):=by rw [hw2];exact Blk.at_ v_3 #[I Z 0,.slice none 0 0] _ _ hbb
    have FB:Hid (Below w.heap.size w v_4):=by rw [hw2];exact FB.out.alloc FB.out.size _
    have F6:Hid (Blk v_4 b6 [I Z 0,I Z 0,I Z 0,I Z 0,I Z 0,I Z 0,I Z 0,I Z 0,I Z 0,I Z 0,I Z 0,I Z 0]):=by rw [hw2];exact F6.out.alloc _
    rw [← hw2,← hbb]
    clear hbb hw2
    have m0:=(FB.out.cell (p:=⟨tb,0,none⟩) LT.out.1).trans X0.out
    have m1:=(FB.out.cell (p:=⟨gb,13,none⟩) LT.out.2).trans Y13.out
    have m2:=(FB.out.cell (p:=⟨gb,14,none⟩) LT.out.2).trans Y14.out
    refine kp hK (fun hHeld=>?_)
    clear hK K
    refine rd1 11 (fun K hK=>?_)
    obtain ⟨k0,k1,k2,k3,k4,k5,k6,k7,k8,k9,k10,k11⟩:=F6.out.c12
    have f0:=F6.out.f 0 (Nat.le_of_ble_eq_true rfl)
    have f1:=F6.out.f 1 (Nat.le_of_ble_eq_true rfl)
    have f2:=F6.out.f 2 (Nat.le_of_ble_eq_true rfl)
    have f3:=F6.out.f 3 (Nat.le_of_ble_eq_true rfl)
    have f4:=F6.out.f 4 (Nat.le_of_ble_eq_true rfl)
    have f5:=F6.out.f 5 (Nat.le_of_ble_eq_true rfl)
    have f6:=F6.out.f 6 (Nat.le_of_ble_eq_true rfl)
    have f7:=F6.out.f 7 (Nat.le_of_ble_eq_true rfl)
    have f8:=F6.out.f 8 (Nat.le_of_ble_eq_true rfl)
    have f9:=F6.out.f 9 (Nat.le_of_ble_eq_true rfl)
    have f10:=F6.out.f 10 (Nat.le_of_ble_eq_true rfl)
    have f11:=F6.out.f 11 (Nat.le_of_ble_eq_true rfl)
    go_simp
    obtain ⟨v_5,hw2⟩:∃ v_5,v_5=putB v_4 b6 0 (hRow h):=⟨_,rfl⟩
    change K _ (putB v_4 b6 0 (hRow h))
    rw [← hw2]
    clear k0 f0 k1 f1 k2 f2 k3 f3 k4 f4 k5 f5 k6 f6 k7 f7 k8 f8 k9 f9 k10 f10 k11 f11
    have FB:Hid (Below w.heap.size w v_5):=by rw [hw2];exact below_putB FB.out (by omega) _ 0
    have F6:Hid (Blk v_5 b6 (hRow h)):=by rw [hw2];exact F6.out.put (hRow h) rfl
    have F7:Hid (Blk v_5 b7 [I Z 0,.slice none 0 0]):=by rw [hw2];exact Blk.putB_other (by omega) _ 0 F7.out
    clear hw2
    have m0:=(FB.out.cell (p:=⟨tb,0,none⟩) LT.out.1).trans X0.out
    have m1:=(FB.out.cell (p:=⟨gb,13,none⟩) LT.out.2).trans Y13.out
    have m2:=(FB.out.cell (p:=⟨gb,14,none⟩) LT.out.2).trans Y14.out
    refine kp hK (fun hHeld=>?_)
    clear hK K
    refine rd1 12 (fun K hK=>?_)
    have k0:=F7.out.c 0 _ rfl
    have k1:=F7.out.c 1 _ rfl
    have f0:=F7.out.f 0 (Nat.le_of_ble_eq_true rfl)
    have f1:=F7.out.f 1 (Nat.le_of_ble_eq_true rfl)
    go_simp
    obtain ⟨v_6,hw2⟩:∃ v_6,v_6=putB v_5 b7 0 [I Z nx,.slice (some ⟨g2,0,none⟩) ps.length c2]:=⟨_,rfl⟩
    change K _ (putB v_5 b7 0 [I Z nx,.slice (some ⟨g2,0,none⟩) ps.length c2])
    rw [← hw2]
    clear k0 k1 f0 f1
    have FB:Hid (Below w.heap.size w v_6):=by rw [hw2];exact below_putB FB.out (by omega) _ 0
    have F6:Hid (Blk v_6 b6 (hRow h)):=by rw [hw2];exact Blk.putB_other (by omega) _ 0 F6.out
    have F7:Hid (Blk v_6 b7 [I Z nx,.slice (some ⟨g2,0,none⟩) ps.length c2]):=by rw [hw2];exact F7.out.put [I Z nx,.slice (some ⟨g2,0,none⟩) ps.length c2] rfl
    clear hw2
    have m0:=(FB.out.cell (p:=⟨tb,0,none⟩) LT.out.1).trans X0.out
    have m1:=(FB.out.cell (p:=⟨gb,13,none⟩) LT.out.2).trans Y13.out
    have m2:=(FB.out.cell (p:=⟨gb,14,none⟩) LT.out.2).trans Y14.out
    refine kp hK (fun hHeld=>?_)
    clear hK K
    refine wpAnyH_done (by kernel_rfl) ?_ _
    go_wp2_with fail
    go_meet
    case rel=>exact ⟨b6,b7,rfl,rfl,by omega,by omega,by omega,F6.out,F7.out,FB.out⟩
   ·go_simp
    obtain ⟨b7,hbb⟩:∃ b7,b7=v_2.heap.size:=⟨_,rfl⟩
    obtain ⟨v_7,hw2⟩:∃ v_7,v_7=v_2.alloc (.cells #[I Z 0,.slice none 0 0] 35):=⟨_,rfl⟩
    have sz:=FB.out.size
    rw [← hbb] at sz
    have F7:Hid (Blk v_7 b7 [I Z 0,.slice none 0 0]):=by rw [hw2];exact Blk.at_ v_2 #[I Z 0,.slice none 0 0] _ _ hbb
    have FB:Hid (Below w.heap.size w v_7):=by rw [hw2];exact FB.out.alloc FB.out.size _
    rw [← hw2,← hbb]
    clear hbb hw2
    have m0:=(FB.out.cell (p:=⟨tb,0,none⟩) LT.out.1).trans X0.out
    have m1:=(FB.out.cell (p:=⟨gb,13,none⟩) LT.out.2).trans Y13.out
    have m2:=(FB.out.cell (p:=⟨gb,14,none⟩) LT.out.2).trans Y14.out
    refine kp hK (fun hHeld=>?_)
    clear hK K
    refine rd1 9 (fun K hK=>?_)
    go_simp
    obtain ⟨b6,hbb⟩:∃ b6,b6=v_7.heap.size:=⟨_,rfl⟩
    obtain ⟨v_8,hw2⟩:∃ v_8,v_8=v_7.alloc (.cells #[I Z 0,I Z 0,I Z 0,I Z 0,I Z 0,I Z 0,I Z 0,I Z 0,I Z 0,I Z 0,I Z 0,I Z 0] 31):=⟨_,rfl⟩
    have sz:=FB.out.size
    rw [← hbb] at sz
    have nb6_1:=F7.out.lt
    rw [← hbb] at nb6_1
    have F6:Hid (Blk v_8 b6 [I Z 0,I Z 0,I Z 0,I Z 0,I Z 0,I Z 0,I Z 0,I Z 0,I Z 0,I Z 0,I Z 0,I Z 0]):=by rw [hw2];exact Blk.at_ v_7 #[I Z 0,I Z 0,I Z 0,I Z 0,I Z 0,I Z 0,I Z 0,I Z 0,I Z 0,I Z 0,I Z 0,I Z 0] _ _ hbb
    have FB:Hid (Below w.heap.size w v_8):=by rw [hw2];exact FB.out.alloc FB.out.size _
    have F7:Hid (Blk v_8 b7 [I Z 0,.slice none 0 0]):=by rw [hw2];exact F7.out.alloc _
    rw [← hw2,← hbb]
    clear hbb hw2
    have m0:=(FB.out.cell (p:=⟨tb,0,none⟩) LT.out.1).trans X0.out
    have m1:=(FB.out.cell (p:=⟨gb,13,none⟩) LT.out.2).trans Y13.out
    have m2:=(FB.out.cell (p:=⟨gb,14,none⟩) LT.out.2).trans Y14.out
    refine kp hK (fun hHeld=>?_)
    clear hK K
    refine rd1 11 (fun K hK=>?_)
    obtain ⟨k0,k1,k2,k3,k4,k5,k6,k7,k8,k9,k10,k11⟩:=F6.out.c12
    have f0:=F6.out.f 0 (Nat.le_of_ble_eq_true rfl)
    have f1:=F6.out.f 1 (Nat.le_of_ble_eq_true rfl)
    have f2:=F6.out.f 2 (Nat.le_of_ble_eq_true rfl)
    have f3:=F6.out.f 3 (Nat.le_of_ble_eq_true rfl)
    have f4:=F6.out.f 4 (Nat.le_of_ble_eq_true rfl)
    have f5:=F6.out.f 5 (Nat.le_of_ble_eq_true rfl)
    have f6:=F6.out.f 6 (Nat.le_of_ble_eq_true rfl)
    have f7:=F6.out.f 7 (Nat.le_of_ble_eq_true rfl)
    have f8:=F6.out.f 8 (Nat.le_of_ble_eq_true rfl)
    have f9:=F6.out.f 9 (Nat.le_of_ble_eq_true rfl)
    have f10:=F6.out.f 10 (Nat.le_of_ble_eq_true rfl)
    have f11:=F6.out.f 11 (Nat.le_of_ble_eq_true rfl)
    go_simp
    obtain ⟨v_9,hw2⟩:∃ v_9,v_9=putB v_8 b6 0 (hRow h):=⟨_,rfl⟩
    change K _ (putB v_8 b6 0 (hRow h))
    rw [← hw2]
    clear k0 f0 k1 f1 k2 f2 k3 f3 k4 f4 k5 f5 k6 f6 k7 f7 k8 f8 k9 f9 k10 f10 k11 f11
    have FB:Hid (Below w.heap.size w v_9):=by rw [hw2];exact below_putB FB.out (by omega) _ 0
    have F7:Hid (Blk v_9 b7 [I Z 0,.slice none 0 0]):=by rw [hw2];exact Blk.putB_other (by omega) _ 0 F7.out
    have F6:Hid (Blk v_9 b6 (hRow h)):=by rw [hw2];exact F6.out.put (hRow h) rfl
    clear hw2
    have m0:=(FB.out.cell (p:=⟨tb,0,none⟩) LT.out.1).trans X0.out
    have m1:=(FB.out.cell (p:=⟨gb,13,none⟩) LT.out.2).trans Y13.out
    have m2:=(FB.out.cell (p:=⟨gb,14,none⟩) LT.out.2).trans Y14.out
    refine kp hK (fun hHeld=>?_)
    clear hK K
    refine rd1 12 (fun K hK=>?_)
    have k0:=F7.out.c 0 _ rfl
    have k1:=F7.out.c 1 _ rfl
    have f0:=F7.out.f 0 (Nat.le_of_ble_eq_true rfl)
    have f1:=F7.out.f 1 (Nat.le_of_ble_eq_true rfl)
    go_simp
    obtain ⟨v_10,hw2⟩:∃ v_10,v_10=putB v_9 b7 0 [I Z nx,.slice (some ⟨g2,0,none⟩) ps.length c2]:=⟨_,rfl⟩
    change K _ (putB v_9 b7 0 [I Z nx,.slice (some ⟨g2,0,none⟩) ps.length c2])
    rw [← hw2]
    clear k0 k1 f0 f1
    have FB:Hid (Below w.heap.size w v_10):=by rw [hw2];exact below_putB FB.out (by omega) _ 0
    have F7:Hid (Blk v_10 b7 [I Z nx,.slice (some ⟨g2,0,none⟩) ps.length c2]):=by rw [hw2];exact F7.out.put [I Z nx,.slice (some ⟨g2,0,none⟩) ps.length c2] rfl
    have F6:Hid (Blk v_10 b6 (hRow h)):=by rw [hw2];exact Blk.putB_other (by omega) _ 0 F6.out
    clear hw2
    have m0:=(FB.out.cell (p:=⟨tb,0,none⟩) LT.out.1).trans X0.out
    have m1:=(FB.out.cell (p:=⟨gb,13,none⟩) LT.out.2).trans Y13.out
    have m2:=(FB.out.cell (p:=⟨gb,14,none⟩) LT.out.2).trans Y14.out
    refine kp hK (fun hHeld=>?_)
    clear hK K
    refine wpAnyH_done (by kernel_rfl) ?_ _
    go_wp2_with fail
    go_meet
    case rel=>exact ⟨b6,b7,rfl,rfl,by omega,by omega,by omega,F6.out,F7.out,FB.out⟩
  ·go_simp
   obtain ⟨b6,hbb⟩:∃ b6,b6=v_1.heap.size:=⟨_,rfl⟩
   obtain ⟨v_11,hw2⟩:∃ v_11,v_11=v_1.alloc (.cells #[I Z 0,I Z 0,I Z 0,I Z 0,I Z 0,I Z 0,I Z 0,I Z 0,I Z 0,I Z 0,I Z 0,I Z 0] 31):=⟨_,rfl⟩
   have sz:=FB.out.size
   rw [← hbb] at sz
   have F6:Hid (Blk v_11 b6 [I Z 0,I Z 0,I Z 0,I Z 0,I Z 0,I Z 0,I Z 0,I Z 0,I Z 0,I Z 0,I Z 0,I Z 0]):=by rw [hw2];exact Blk.at_ v_1 #[I Z 0,I Z 0,I Z 0,I Z 0,I Z 0,I Z 0,I Z 0,I Z 0,I Z 0,I Z 0,I Z 0,I Z 0] _ _ hbb
   have FB:Hid (Below w.heap.size w v_11):=by rw [hw2];exact FB.out.alloc FB.out.size _
   rw [← hw2,← hbb]
   clear hbb hw2
   have m0:=(FB.out.cell (p:=⟨tb,0,none⟩) LT.out.1).trans X0.out
   have m1:=(FB.out.cell (p:=⟨gb,13,none⟩) LT.out.2).trans Y13.out
   have m2:=(FB.out.cell (p:=⟨gb,14,none⟩) LT.out.2).trans Y14.out
   refine kp hK (fun hHeld=>?_)
   clear hK K
   refine wpAnyH_ready (rs:=[1,10]) (by kernel_rfl) (by simp) ?_
   refine (AllReadyH.cons rfl (fun K hK=>?_) (AllReadyH.cons rfl (fun K hK=>?_) AllReadyH.nil))
   ·go_simp
    refine (house_any tb gb h _ ((FB.out.cell (p:=⟨tb,0,none⟩) LT.out.1).trans X0.out) (fun k v e=>(FB.out.cell (p:=⟨gb,k,none⟩) LT.out.2).trans (Y.out k v e))).mono ?_
    rintro e v_12 ⟨rfl,hb⟩
    have FB:=tB FB hb
    have F6:=bB F6 hb
    clear hb
    have m0:=(FB.out.cell (p:=⟨tb,0,none⟩) LT.out.1).trans X0.out
    have m1:=(FB.out.cell (p:=⟨gb,13,none⟩) LT.out.2).trans Y13.out
    have m2:=(FB.out.cell (p:=⟨gb,14,none⟩) LT.out.2).trans Y14.out
    try dsimp only
    refine kp hK (fun hHeld=>?_)
    clear hK K
    refine rd1 10 (fun K hK=>?_)
    go_simp
    obtain ⟨b7,hbb⟩:∃ b7,b7=v_12.heap.size:=⟨_,rfl⟩
    obtain ⟨v_13,hw2⟩:∃ v_13,v_13=v_12.alloc (.cells #[I Z 0,.slice none 0 0] 35):=⟨_,rfl⟩
    have sz:=FB.out.size
    rw [← hbb] at sz
    have nb7_1:=F6.out.lt
    rw [← hbb] at nb7_1
    have F7:Hid (Blk v_13 b7 [I Z 0,.slice none 0 0]):=by rw [hw2];exact Blk.at_ v_12 #[I Z 0,.slice none 0 0] _ _ hbb
    have FB:Hid (Below w.heap.size w v_13):=by rw [hw2];exact FB.out.alloc FB.out.size _
    have F6:Hid (Blk v_13 b6 [I Z 0,I Z 0,I Z 0,I Z 0,I Z 0,I Z 0,I Z 0,I Z 0,I Z 0,I Z 0,I Z 0,I Z 0]):=by rw [hw2];exact F6.out.alloc _
    rw [← hw2,← hbb]
    clear hbb hw2
    have m0:=(FB.out.cell (p:=⟨tb,0,none⟩) LT.out.1).trans X0.out
    have m1:=(FB.out.cell (p:=⟨gb,13,none⟩) LT.out.2).trans Y13.out
    have m2:=(FB.out.cell (p:=⟨gb,14,none⟩) LT.out.2).trans Y14.out
    refine kp hK (fun hHeld=>?_)
    clear hK K
    refine rd1 11 (fun K hK=>?_)
    obtain ⟨k0,k1,k2,k3,k4,k5,k6,k7,k8,k9,k10,k11⟩:=F6.out.c12
    have f0:=F6.out.f 0 (Nat.le_of_ble_eq_true rfl)
    have f1:=F6.out.f 1 (Nat.le_of_ble_eq_true rfl)
    have f2:=F6.out.f 2 (Nat.le_of_ble_eq_true rfl)
    have f3:=F6.out.f 3 (Nat.le_of_ble_eq_true rfl)
    have f4:=F6.out.f 4 (Nat.le_of_ble_eq_true rfl)
    have f5:=F6.out.f 5 (Nat.le_of_ble_eq_true rfl)
    have f6:=F6.out.f 6 (Nat.le_of_ble_eq_true rfl)
    have f7:=F6.out.f 7 (Nat.le_of_ble_eq_true rfl)
    have f8:=F6.out.f 8 (Nat.le_of_ble_eq_true rfl)
    have f9:=F6.out.f 9 (Nat.le_of_ble_eq_true rfl)
    have f10:=F6.out.f 10 (Nat.le_of_ble_eq_true rfl)
    have f11:=F6.out.f 11 (Nat.le_of_ble_eq_true rfl)
    go_simp
    obtain ⟨v_14,hw2⟩:∃ v_14,v_14=putB v_13 b6 0 (hRow h):=⟨_,rfl⟩
    change K _ (putB v_13 b6 0 (hRow h))
    rw [← hw2]
    clear k0 f0 k1 f1 k2 f2 k3 f3 k4 f4 k5 f5 k6 f6 k7 f7 k8 f8 k9 f9 k10 f10 k11 f11
    have FB:Hid (Below w.heap.size w v_14):=by rw [hw2];exact below_putB FB.out (by omega) _ 0
    have F6:Hid (Blk v_14 b6 (hRow h)):=by rw [hw2];exact F6.out.put (hRow h) rfl
    have F7:Hid (Blk v_14 b7 [I Z 0,.slice none 0 0]):=by rw [hw2];exact Blk.putB_other (by omega) _ 0 F7.out
    clear hw2
    have m0:=(FB.out.cell (p:=⟨tb,0,none⟩) LT.out.1).trans X0.out
    have m1:=(FB.out.cell (p:=⟨gb,13,none⟩) LT.out.2).trans Y13.out
    have m2:=(FB.out.cell (p:=⟨gb,14,none⟩) LT.out.2).trans Y14.out
    refine kp hK (fun hHeld=>?_)
    clear hK K
    refine rd1 12 (fun K hK=>?_)
    have k0:=F7.out.c 0 _ rfl
    have k1:=F7.out.c 1 _ rfl
    have f0:=F7.out.f 0 (Nat.le_of_ble_eq_true rfl)
    have f1:=F7.out.f 1 (Nat.le_of_ble_eq_true rfl)
    go_simp
    obtain ⟨v_15,hw2⟩:∃ v_15,v_15=putB v_14 b7 0 [I Z nx,.slice (some ⟨g2,0,none⟩) ps.length c2]:=⟨_,rfl⟩
    change K _ (putB v_14 b7 0 [I Z nx,.slice (some ⟨g2,0,none⟩) ps.length c2])
    rw [← hw2]
    clear k0 k1 f0 f1
    have FB:Hid (Below w.heap.size w v_15):=by rw [hw2];exact below_putB FB.out (by omega) _ 0
    have F6:Hid (Blk v_15 b6 (hRow h)):=by rw [hw2];exact Blk.putB_other (by omega) _ 0 F6.out
    have F7:Hid (Blk v_15 b7 [I Z nx,.slice (some ⟨g2,0,none⟩) ps.length c2]):=by rw [hw2];exact F7.out.put [I Z nx,.slice (some ⟨g2,0,none⟩) ps.length c2] rfl
    clear hw2
    have m0:=(FB.out.cell (p:=⟨tb,0,none⟩) LT.out.1).trans X0.out
    have m1:=(FB.out.cell (p:=⟨gb,13,none⟩) LT.out.2).trans Y13.out
    have m2:=(FB.out.cell (p:=⟨gb,14,none⟩) LT.out.2).trans Y14.out
    refine kp hK (fun hHeld=>?_)
    clear hK K
    refine wpAnyH_done (by kernel_rfl) ?_ _
    go_wp2_with fail
    go_meet
    case rel=>exact ⟨b6,b7,rfl,rfl,by omega,by omega,by omega,F6.out,F7.out,FB.out⟩
   ·go_simp
    obtain ⟨b7,hbb⟩:∃ b7,b7=v_11.heap.size:=⟨_,rfl⟩
    obtain ⟨v_16,hw2⟩:∃ v_16,v_16=v_11.alloc (.cells #[I Z 0,.slice none 0 0] 35):=⟨_,rfl⟩
    have sz:=FB.out.size
    rw [← hbb] at sz
    have nb7_1:=F6.out.lt
    rw [← hbb] at nb7_1
    have F7:Hid (Blk v_16 b7 [I Z 0,.slice none 0 0]):=by rw [hw2];exact Blk.at_ v_11 #[I Z 0,.slice none 0 0] _ _ hbb
    have FB:Hid (Below w.heap.size w v_16):=by rw [hw2];exact FB.out.alloc FB.out.size _
    have F6:Hid (Blk v_16 b6 [I Z 0,I Z 0,I Z 0,I Z 0,I Z 0,I Z 0,I Z 0,I Z 0,I Z 0,I Z 0,I Z 0,I Z 0]):=by rw [hw2];exact F6.out.alloc _
    rw [← hw2,← hbb]
    clear hbb hw2
    have m0:=(FB.out.cell (p:=⟨tb,0,none⟩) LT.out.1).trans X0.out
    have m1:=(FB.out.cell (p:=⟨gb,13,none⟩) LT.out.2).trans Y13.out
    have m2:=(FB.out.cell (p:=⟨gb,14,none⟩) LT.out.2).trans Y14.out
    refine kp hK (fun hHeld=>?_)
    clear hK K
    refine rd1 1 (fun K hK=>?_)
    go_simp
    refine (house_any tb gb h _ ((FB.out.cell (p:=⟨tb,0,none⟩) LT.out.1).trans X0.out) (fun k v e=>(FB.out.cell (p:=⟨gb,k,none⟩) LT.out.2).trans (Y.out k v e))).mono ?_
    rintro e v_17 ⟨rfl,hb⟩
    have FB:=tB FB hb
    have F6:=bB F6 hb
    have F7:=bB F7 hb
    clear hb
    have m0:=(FB.out.cell (p:=⟨tb,0,none⟩) LT.out.1).trans X0.out
    have m1:=(FB.out.cell (p:=⟨gb,13,none⟩) LT.out.2).trans Y13.out
    have m2:=(FB.out.cell (p:=⟨gb,14,none⟩) LT.out.2).trans Y14.out
    try dsimp only
    refine kp hK (fun hHeld=>?_)
    clear hK K
    refine rd1 11 (fun K hK=>?_)
    obtain ⟨k0,k1,k2,k3,k4,k5,k6,k7,k8,k9,k10,k11⟩:=F6.out.c12
    have f0:=F6.out.f 0 (Nat.le_of_ble_eq_true rfl)
    have f1:=F6.out.f 1 (Nat.le_of_ble_eq_true rfl)
    have f2:=F6.out.f 2 (Nat.le_of_ble_eq_true rfl)
    have f3:=F6.out.f 3 (Nat.le_of_ble_eq_true rfl)
    have f4:=F6.out.f 4 (Nat.le_of_ble_eq_true rfl)
    have f5:=F6.out.f 5 (Nat.le_of_ble_eq_true rfl)
    have f6:=F6.out.f 6 (Nat.le_of_ble_eq_true rfl)
    have f7:=F6.out.f 7 (Nat.le_of_ble_eq_true rfl)
    have f8:=F6.out.f 8 (Nat.le_of_ble_eq_true rfl)
    have f9:=F6.out.f 9 (Nat.le_of_ble_eq_true rfl)
    have f10:=F6.out.f 10 (Nat.le_of_ble_eq_true rfl)
    have f11:=F6.out.f 11 (Nat.le_of_ble_eq_true rfl)
    go_simp
    obtain ⟨v_18,hw2⟩:∃ v_18,v_18=putB v_17 b6 0 (hRow h):=⟨_,rfl⟩
    change K _ (putB v_17 b6 0 (hRow h))
    rw [← hw2]
    clear k0 f0 k1 f1 k2 f2 k3 f3 k4 f4 k5 f5 k6 f6 k7 f7 k8 f8 k9 f9 k10 f10 k11 f11
    have FB:Hid (Below w.heap.size w v_18):=by rw [hw2];exact below_putB FB.out (by omega) _ 0
    have F6:Hid (Blk v_18 b6 (hRow h)):=by rw [hw2];exact F6.out.put (hRow h) rfl
    have F7:Hid (Blk v_18 b7 [I Z 0,.slice none 0 0]):=by rw [hw2];exact Blk.putB_other (by omega) _ 0 F7.out
    clear hw2
    have m0:=(FB.out.cell (p:=⟨tb,0,none⟩) LT.out.1).trans X0.out
    have m1:=(FB.out.cell (p:=⟨gb,13,none⟩) LT.out.2).trans Y13.out
    have m2:=(FB.out.cell (p:=⟨gb,14,none⟩) LT.out.2).trans Y14.out
    refine kp hK (fun hHeld=>?_)
    clear hK K
    refine rd1 12 (fun K hK=>?_)
    have k0:=F7.out.c 0 _ rfl
    have k1:=F7.out.c 1 _ rfl
    have f0:=F7.out.f 0 (Nat.le_of_ble_eq_true rfl)
    have f1:=F7.out.f 1 (Nat.le_of_ble_eq_true rfl)
    go_simp
    obtain ⟨v_19,hw2⟩:∃ v_19,v_19=putB v_18 b7 0 [I Z nx,.slice (some ⟨g2,0,none⟩) ps.length c2]:=⟨_,rfl⟩
    change K _ (putB v_18 b7 0 [I Z nx,.slice (some ⟨g2,0,none⟩) ps.length c2])
    rw [← hw2]
    clear k0 k1 f0 f1
    have FB:Hid (Below w.heap.size w v_19):=by rw [hw2];exact below_putB FB.out (by omega) _ 0
    have F6:Hid (Blk v_19 b6 (hRow h)):=by rw [hw2];exact Blk.putB_other (by omega) _ 0 F6.out
    have F7:Hid (Blk v_19 b7 [I Z nx,.slice (some ⟨g2,0,none⟩) ps.length c2]):=by rw [hw2];exact F7.out.put [I Z nx,.slice (some ⟨g2,0,none⟩) ps.length c2] rfl
    clear hw2
    have m0:=(FB.out.cell (p:=⟨tb,0,none⟩) LT.out.1).trans X0.out
    have m1:=(FB.out.cell (p:=⟨gb,13,none⟩) LT.out.2).trans Y13.out
    have m2:=(FB.out.cell (p:=⟨gb,14,none⟩) LT.out.2).trans Y14.out
    refine kp hK (fun hHeld=>?_)
    clear hK K
    refine wpAnyH_done (by kernel_rfl) ?_ _
    go_wp2_with fail
    go_meet
    case rel=>exact ⟨b6,b7,rfl,rfl,by omega,by omega,by omega,F6.out,F7.out,FB.out⟩
  ·go_simp
   obtain ⟨b7,hbb⟩:∃ b7,b7=v_1.heap.size:=⟨_,rfl⟩
   obtain ⟨v_20,hw2⟩:∃ v_20,v_20=v_1.alloc (.cells #[I Z 0,.slice none 0 0] 35):=⟨_,rfl⟩
   have sz:=FB.out.size
   rw [← hbb] at sz
   have F7:Hid (Blk v_20 b7 [I Z 0,.slice none 0 0]):=by rw [hw2];exact Blk.at_ v_1 #[I Z 0,.slice none 0 0] _ _ hbb
   have FB:Hid (Below w.heap.size w v_20):=by rw [hw2];exact FB.out.alloc FB.out.size _
   rw [← hw2,← hbb]
   clear hbb hw2
   have m0:=(FB.out.cell (p:=⟨tb,0,none⟩) LT.out.1).trans X0.out
   have m1:=(FB.out.cell (p:=⟨gb,13,none⟩) LT.out.2).trans Y13.out
   have m2:=(FB.out.cell (p:=⟨gb,14,none⟩) LT.out.2).trans Y14.out
   refine kp hK (fun hHeld=>?_)
   clear hK K
   refine wpAnyH_ready (rs:=[1,9]) (by kernel_rfl) (by simp) ?_
   refine (AllReadyH.cons rfl (fun K hK=>?_) (AllReadyH.cons rfl (fun K hK=>?_) AllReadyH.nil))
   ·go_simp
    refine (house_any tb gb h _ ((FB.out.cell (p:=⟨tb,0,none⟩) LT.out.1).trans X0.out) (fun k v e=>(FB.out.cell (p:=⟨gb,k,none⟩) LT.out.2).trans (Y.out k v e))).mono ?_
    rintro e v_21 ⟨rfl,hb⟩
    have FB:=tB FB hb
    have F7:=bB F7 hb
    clear hb
    have m0:=(FB.out.cell (p:=⟨tb,0,none⟩) LT.out.1).trans X0.out
    have m1:=(FB.out.cell (p:=⟨gb,13,none⟩) LT.out.2).trans Y13.out
    have m2:=(FB.out.cell (p:=⟨gb,14,none⟩) LT.out.2).trans Y14.out
    try dsimp only
    refine kp hK (fun hHeld=>?_)
    clear hK K
    refine rd1 9 (fun K hK=>?_)
    go_simp
    obtain ⟨b6,hbb⟩:∃ b6,b6=v_21.heap.size:=⟨_,rfl⟩
    obtain ⟨v_22,hw2⟩:∃ v_22,v_22=v_21.alloc (.cells #[I Z 0,I Z 0,I Z 0,I Z 0,I Z 0,I Z 0,I Z 0,I Z 0,I Z 0,I Z 0,I Z 0,I Z 0] 31):=⟨_,rfl⟩
    have sz:=FB.out.size
    rw [← hbb] at sz
    have nb6_1:=F7.out.lt
    rw [← hbb] at nb6_1
    have F6:Hid (Blk v_22 b6 [I Z 0,I Z 0,I Z 0,I Z 0,I Z 0,I Z 0,I Z 0,I Z 0,I Z 0,I Z 0,I Z 0,I Z 0]):=by rw [hw2];exact Blk.at_ v_21 #[I Z 0,I Z 0,I Z 0,I Z 0,I Z 0,I Z 0,I Z 0,I Z 0,I Z 0,I Z 0,I Z 0,I Z 0] _ _ hbb
    have FB:Hid (Below w.heap.size w v_22):=by rw [hw2];exact FB.out.alloc FB.out.size _
    have F7:Hid (Blk v_22 b7 [I Z 0,.slice none 0 0]):=by rw [hw2];exact F7.out.alloc _
    rw [← hw2,← hbb]
    clear hbb hw2
    have m0:=(FB.out.cell (p:=⟨tb,0,none⟩) LT.out.1).trans X0.out
    have m1:=(FB.out.cell (p:=⟨gb,13,none⟩) LT.out.2).trans Y13.out
    have m2:=(FB.out.cell (p:=⟨gb,14,none⟩) LT.out.2).trans Y14.out
    refine kp hK (fun hHeld=>?_)
    clear hK K
    refine rd1 11 (fun K hK=>?_)
    obtain ⟨k0,k1,k2,k3,k4,k5,k6,k7,k8,k9,k10,k11⟩:=F6.out.c12
    have f0:=F6.out.f 0 (Nat.le_of_ble_eq_true rfl)
    have f1:=F6.out.f 1 (Nat.le_of_ble_eq_true rfl)
    have f2:=F6.out.f 2 (Nat.le_of_ble_eq_true rfl)
    have f3:=F6.out.f 3 (Nat.le_of_ble_eq_true rfl)
    have f4:=F6.out.f 4 (Nat.le_of_ble_eq_true rfl)
    have f5:=F6.out.f 5 (Nat.le_of_ble_eq_true rfl)
    have f6:=F6.out.f 6 (Nat.le_of_ble_eq_true rfl)
    have f7:=F6.out.f 7 (Nat.le_of_ble_eq_true rfl)
    have f8:=F6.out.f 8 (Nat.le_of_ble_eq_true rfl)
    have f9:=F6.out.f 9 (Nat.le_of_ble_eq_true rfl)
    have f10:=F6.out.f 10 (Nat.le_of_ble_eq_true rfl)
    have f11:=F6.out.f 11 (Nat.le_of_ble_eq_true rfl)
    go_simp
    obtain ⟨v_23,hw2⟩:∃ v_23,v_23=putB v_22 b6 0 (hRow h):=⟨_,rfl⟩
    change K _ (putB v_22 b6 0 (hRow h))
    rw [← hw2]
    clear k0 f0 k1 f1 k2 f2 k3 f3 k4 f4 k5 f5 k6 f6 k7 f7 k8 f8 k9 f9 k10 f10 k11 f11
    have FB:Hid (Below w.heap.size w v_23):=by rw [hw2];exact below_putB FB.out (by omega) _ 0
    have F7:Hid (Blk v_23 b7 [I Z 0,.slice none 0 0]):=by rw [hw2];exact Blk.putB_other (by omega) _ 0 F7.out
    have F6:Hid (Blk v_23 b6 (hRow h)):=by rw [hw2];exact F6.out.put (hRow h) rfl
    clear hw2
    have m0:=(FB.out.cell (p:=⟨tb,0,none⟩) LT.out.1).trans X0.out
    have m1:=(FB.out.cell (p:=⟨gb,13,none⟩) LT.out.2).trans Y13.out
    have m2:=(FB.out.cell (p:=⟨gb,14,none⟩) LT.out.2).trans Y14.out
    refine kp hK (fun hHeld=>?_)
    clear hK K
    refine rd1 12 (fun K hK=>?_)
    have k0:=F7.out.c 0 _ rfl
    have k1:=F7.out.c 1 _ rfl
    have f0:=F7.out.f 0 (Nat.le_of_ble_eq_true rfl)
    have f1:=F7.out.f 1 (Nat.le_of_ble_eq_true rfl)
    go_simp
    obtain ⟨v_24,hw2⟩:∃ v_24,v_24=putB v_23 b7 0 [I Z nx,.slice (some ⟨g2,0,none⟩) ps.length c2]:=⟨_,rfl⟩
    change K _ (putB v_23 b7 0 [I Z nx,.slice (some ⟨g2,0,none⟩) ps.length c2])
    rw [← hw2]
    clear k0 k1 f0 f1
    have FB:Hid (Below w.heap.size w v_24):=by rw [hw2];exact below_putB FB.out (by omega) _ 0
    have F7:Hid (Blk v_24 b7 [I Z nx,.slice (some ⟨g2,0,none⟩) ps.length c2]):=by rw [hw2];exact F7.out.put [I Z nx,.slice (some ⟨g2,0,none⟩) ps.length c2] rfl
    have F6:Hid (Blk v_24 b6 (hRow h)):=by rw [hw2];exact Blk.putB_other (by omega) _ 0 F6.out
    clear hw2
    have m0:=(FB.out.cell (p:=⟨tb,0,none⟩) LT.out.1).trans X0.out
    have m1:=(FB.out.cell (p:=⟨gb,13,none⟩) LT.out.2).trans Y13.out
    have m2:=(FB.out.cell (p:=⟨gb,14,none⟩) LT.out.2).trans Y14.out
    refine kp hK (fun hHeld=>?_)
    clear hK K
    refine wpAnyH_done (by kernel_rfl) ?_ _
    go_wp2_with fail
    go_meet
    case rel=>exact ⟨b6,b7,rfl,rfl,by omega,by omega,by omega,F6.out,F7.out,FB.out⟩
   ·go_simp
    obtain ⟨b6,hbb⟩:∃ b6,b6=v_20.heap.size:=⟨_,rfl⟩
    obtain ⟨v_25,hw2⟩:∃ v_25,v_25=v_20.alloc (.cells #[I Z 0,I Z 0,I Z 0,I Z 0,I Z 0,I Z 0,I Z 0,I Z 0,I Z 0,I Z 0,I Z 0,I Z 0] 31):=⟨_,rfl⟩
    have sz:=FB.out.size
    rw [← hbb] at sz
    have nb6_1:=F7.out.lt
    rw [← hbb] at nb6_1
    have F6:Hid (Blk v_25 b6 [I Z 0,I Z 0,I Z 0,I Z 0,I Z 0,I Z 0,I Z 0,I Z 0,I Z 0,I Z 0,I Z 0,I Z 0]):=by rw [hw2];exact Blk.at_ v_20 #[I Z 0,I Z 0,I Z 0,I Z 0,I Z 0,I Z 0,I Z 0,I Z 0,I Z 0,I Z 0,I Z 0,I Z 0] _ _ hbb
    have FB:Hid (Below w.heap.size w v_25):=by rw [hw2];exact FB.out.alloc FB.out.size _
    have F7:Hid (Blk v_25 b7 [I Z 0,.slice none 0 0]):=by rw [hw2];exact F7.out.alloc _
    rw [← hw2,← hbb]
    clear hbb hw2
    have m0:=(FB.out.cell (p:=⟨tb,0,none⟩) LT.out.1).trans X0.out
    have m1:=(FB.out.cell (p:=⟨gb,13,none⟩) LT.out.2).trans Y13.out
    have m2:=(FB.out.cell (p:=⟨gb,14,none⟩) LT.out.2).trans Y14.out
    refine kp hK (fun hHeld=>?_)
    clear hK K
    refine rd1 1 (fun K hK=>?_)
    go_simp
    refine (house_any tb gb h _ ((FB.out.cell (p:=⟨tb,0,none⟩) LT.out.1).trans X0.out) (fun k v e=>(FB.out.cell (p:=⟨gb,k,none⟩) LT.out.2).trans (Y.out k v e))).mono ?_
    rintro e v_26 ⟨rfl,hb⟩
    have FB:=tB FB hb
    have F7:=bB F7 hb
    have F6:=bB F6 hb
    clear hb
    have m0:=(FB.out.cell (p:=⟨tb,0,none⟩) LT.out.1).trans X0.out
    have m1:=(FB.out.cell (p:=⟨gb,13,none⟩) LT.out.2).trans Y13.out
    have m2:=(FB.out.cell (p:=⟨gb,14,none⟩) LT.out.2).trans Y14.out
    try dsimp only
    refine kp hK (fun hHeld=>?_)
    clear hK K
    refine rd1 11 (fun K hK=>?_)
    obtain ⟨k0,k1,k2,k3,k4,k5,k6,k7,k8,k9,k10,k11⟩:=F6.out.c12
    have f0:=F6.out.f 0 (Nat.le_of_ble_eq_true rfl)
    have f1:=F6.out.f 1 (Nat.le_of_ble_eq_true rfl)
    have f2:=F6.out.f 2 (Nat.le_of_ble_eq_true rfl)
    have f3:=F6.out.f 3 (Nat.le_of_ble_eq_true rfl)
    have f4:=F6.out.f 4 (Nat.le_of_ble_eq_true rfl)
    have f5:=F6.out.f 5 (Nat.le_of_ble_eq_true rfl)
    have f6:=F6.out.f 6 (Nat.le_of_ble_eq_true rfl)
    have f7:=F6.out.f 7 (Nat.le_of_ble_eq_true rfl)
    have f8:=F6.out.f 8 (Nat.le_of_ble_eq_true rfl)
    have f9:=F6.out.f 9 (Nat.le_of_ble_eq_true rfl)
    have f10:=F6.out.f 10 (Nat.le_of_ble_eq_true rfl)
    have f11:=F6.out.f 11 (Nat.le_of_ble_eq_true rfl)
    go_simp
    obtain ⟨v_27,hw2⟩:∃ v_27,v_27=putB v_26 b6 0 (hRow h):=⟨_,rfl⟩
    change K _ (putB v_26 b6 0 (hRow h))
    rw [← hw2]
    clear k0 f0 k1 f1 k2 f2 k3 f3 k4 f4 k5 f5 k6 f6 k7 f7 k8 f8 k9 f9 k10 f10 k11 f11
    have FB:Hid (Below w.heap.size w v_27):=by rw [hw2];exact below_putB FB.out (by omega) _ 0
    have F7:Hid (Blk v_27 b7 [I Z 0,.slice none 0 0]):=by rw [hw2];exact Blk.putB_other (by omega) _ 0 F7.out
    have F6:Hid (Blk v_27 b6 (hRow h)):=by rw [hw2];exact F6.out.put (hRow h) rfl
    clear hw2
    have m0:=(FB.out.cell (p:=⟨tb,0,none⟩) LT.out.1).trans X0.out
    have m1:=(FB.out.cell (p:=⟨gb,13,none⟩) LT.out.2).trans Y13.out
    have m2:=(FB.out.cell (p:=⟨gb,14,none⟩) LT.out.2).trans Y14.out
    refine kp hK (fun hHeld=>?_)
    clear hK K
    refine rd1 12 (fun K hK=>?_)
    have k0:=F7.out.c 0 _ rfl
    have k1:=F7.out.c 1 _ rfl
    have f0:=F7.out.f 0 (Nat.le_of_ble_eq_true rfl)
    have f1:=F7.out.f 1 (Nat.le_of_ble_eq_true rfl)
    go_simp
    obtain ⟨v_28,hw2⟩:∃ v_28,v_28=putB v_27 b7 0 [I Z nx,.slice (some ⟨g2,0,none⟩) ps.length c2]:=⟨_,rfl⟩
    change K _ (putB v_27 b7 0 [I Z nx,.slice (some ⟨g2,0,none⟩) ps.length c2])
    rw [← hw2]
    clear k0 k1 f0 f1
    have FB:Hid (Below w.heap.size w v_28):=by rw [hw2];exact below_putB FB.out (by omega) _ 0
    have F7:Hid (Blk v_28 b7 [I Z nx,.slice (some ⟨g2,0,none⟩) ps.length c2]):=by rw [hw2];exact F7.out.put [I Z nx,.slice (some ⟨g2,0,none⟩) ps.length c2] rfl
    have F6:Hid (Blk v_28 b6 (hRow h)):=by rw [hw2];exact Blk.putB_other (by omega) _ 0 F6.out
    clear hw2
    have m0:=(FB.out.cell (p:=⟨tb,0,none⟩) LT.out.1).trans X0.out
    have m1:=(FB.out.cell (p:=⟨gb,13,none⟩) LT.out.2).trans Y13.out
    have m2:=(FB.out.cell (p:=⟨gb,14,none⟩) LT.out.2).trans Y14.out
    refine kp hK (fun hHeld=>?_)
    clear hK K
    refine wpAnyH_done (by kernel_rfl) ?_ _
    go_wp2_with fail
    go_meet
    case rel=>exact ⟨b6,b7,rfl,rfl,by omega,by omega,by omega,F6.out,F7.out,FB.out⟩
 case rest=>
  obtain ⟨b6,b7,rfl,rfl,l6,l7,n67,f6,f7,fb⟩:=hcut
  have F6:=zH f6
  have F7:=zH f7
  have FB:=zH fb
  clear f6 f7 fb
  have FT:Hid (Blk wc tb (tPh gb g1 i t)):=FT.out.below FB.out LT.out.1
  have lt:=LT.out.1
  have lg:=LT.out.2
  have fld:∀ W (v:Value),(Instr.field 213 (.agg #[I Z 0,I Z 0,I Z nx,v]) 2).run Tryz.prog W=.ok (.agg #[I Z nx,v]) W:=fun W v=>by kernel_rfl
  cases rc
  ·have K2:Hid (Hs.askd h ⟨nx,ps.map (alightP t.z ca fl)⟩ t.z ca fl=0):=K2.out rfl
   have y16:=(FB.out.cell (p:=⟨gb,16,none⟩) LT.out.2).trans Y16.out
   have m0:=(FB.out.cell (p:=⟨tb,0,none⟩) LT.out.1).trans X0.out
   go_upto_region 3 with fail
   clear y16 m0
   have F6:=zH (F6.out.below (Below.refl _ _).drew F6.out.lt)
   have F7:=zH (F7.out.below (Below.refl _ _).drew F7.out.lt)
   have FT:=zH (FT.out.below (Below.refl _ _).drew FT.out.lt)
   have FB:=zH (FB.out.drew)
   have m2:=FT.out.c 2 _ rfl
   refine wp_region_held_drew (S:=(fun w''=>Blk w'' b6 ([I Z h.fl,I Z h.gp,I Z h.ln,I Z h.rf,I Z h.sp,I Z h.pu,I Z h.br,I Z h.dr,I Z h.lv,I Z h.dO,I Z h.ld,I Z h.qu])∧w''.cell? ⟨tb,2,none⟩=some (I Z t.z))) (by kernel_rfl) (by (try dsimp only);first | exact ⟨F6.out,m2⟩ | go_keep) (fun hHeld=>?_)
   obtain ⟨v_29,hw1⟩:∃ v_29,v_29=wc.drew:=⟨_,rfl⟩
   rw [← hw1] at F6 F7 FT FB hHeld ⊢
   clear hw1
   have m2:=FT.out.c 2 _ rfl
   refine tkz 0 rfl ?_ (hy:=Or.inl ⟨by kernel_rfl,fun wx hSw=>exec_load_blk 31 _ Tryz.underlying31 (by kernel_rfl) rfl rfl hSw.1⟩)
   refine tkz 2 rfl ?_
   refine tkz 3 rfl ?_
   refine tkz 4 rfl ?_
   refine tkz 5 rfl ?_
   refine tkz 6 rfl ?_
   refine tkz 7 rfl ?_
   refine rd1 1 (fun K hK=>?_)
   have c0_:=F7.out.c 0 _ rfl
   have c1_:=F7.out.c 1 _ rfl
   go_simp
   refine kp hK (fun hHeld=>?_)
   clear hK K
   refine rd1 8 (fun K hK=>?_)
   go_simp
   refine (implAlightAt_g h ⟨nx,ps⟩ t.z ca fl g2 0 c2 (by simpa using hl) K1.out _ (HO.out.below FB.out LT2.out).bl.2 (fun i p e=>by have q:=(HO.out.below FB.out LT2.out).p7 e;simpa using q)).mono ?_
   rintro e v_30 ⟨pa,cpa,rfl,ho,hb⟩
   have lpa:b7 < pa:=Nat.lt_of_lt_of_le F7.out.lt ho.bl.1
   have Ppa:=zH (ho.base FB.out.size)
   have F6:=bB F6 hb
   have F7:=bB F7 hb
   have FT:=zH (FT.out.below hb FT.out.lt)
   have FB:=tB FB hb
   clear hb
   have m2:=FT.out.c 2 _ rfl
   clear ho
   try dsimp only
   refine kp hK (fun hHeld=>?_)
   clear hK K
   refine tkz 9 rfl ?_
   refine rd1 10 (fun K hK=>?_)
   have k0:=F7.out.c 0 _ rfl
   have k1:=F7.out.c 1 _ rfl
   have f0:=F7.out.f 0 (Nat.le_of_ble_eq_true rfl)
   have f1:=F7.out.f 1 (Nat.le_of_ble_eq_true rfl)
   go_simp
   obtain ⟨v_31,hw2⟩:∃ v_31,v_31=putB v_30 b7 0 [I Z nx,.slice (some ⟨pa,0,none⟩) ps.length cpa]:=⟨_,rfl⟩
   change K _ (putB v_30 b7 0 [I Z nx,.slice (some ⟨pa,0,none⟩) ps.length cpa])
   rw [← hw2]
   clear k0 k1 f0 f1
   have F6:Hid (Blk v_31 b6 [I Z h.fl,I Z h.gp,I Z h.ln,I Z h.rf,I Z h.sp,I Z h.pu,I Z h.br,I Z h.dr,I Z h.lv,I Z h.dO,I Z h.ld,I Z h.qu]):=by rw [hw2];exact Blk.putB_other (by omega) _ 0 F6.out
   have F7:Hid (Blk v_31 b7 [I Z nx,.slice (some ⟨pa,0,none⟩) ps.length cpa]):=by rw [hw2];exact F7.out.put [I Z nx,.slice (some ⟨pa,0,none⟩) ps.length cpa] rfl
   have FT:Hid (Blk v_31 tb (tPh gb g1 i t)):=by rw [hw2];exact Blk.putB_other (by omega) _ 0 FT.out
   have FB:Hid (Below w.heap.size w v_31):=by rw [hw2];exact below_putB FB.out (by omega) _ 0
   have Ppa:Hid (Ow v_31 w.heap.size pa ps.length cpa (ps.map (alightP t.z ca fl))):=by rw [hw2];exact (Ppa.out.other (p:=⟨b7,0,none⟩) (by show pa ≠ b7;omega) _).other (p:=⟨b7,1,none⟩) (by show pa ≠ b7;omega) _
   clear hw2
   have m2:=FT.out.c 2 _ rfl
   refine kp hK (fun hHeld=>?_)
   clear hK K
   refine wpAnyH_done (by kernel_rfl) ?_ _
   go_upto_region 4 with fail
   obtain ⟨W4,rfl⟩:∃ W4,W4=v_31:=⟨_,rfl⟩
   have F6:=zH (F6.out.below (Below.refl _ _).drew F6.out.lt)
   have F7:=zH (F7.out.below (Below.refl _ _).drew F7.out.lt)
   have FT:=zH (FT.out.below (Below.refl _ _).drew FT.out.lt)
   have Ppa:=zH (Ppa.out.drew)
   have FB:=zH (FB.out.drew)
   have m0:=FT.out.c 0 _ rfl
   have m2:=FT.out.c 2 _ rfl
   refine wp_region_held_drew (S:=(fun w''=>Blk w'' b6 ([I Z h.fl,I Z h.gp,I Z h.ln,I Z h.rf,I Z h.sp,I Z h.pu,I Z h.br,I Z h.dr,I Z h.lv,I Z h.dO,I Z h.ld,I Z h.qu])∧Blk w'' b7 ([I Z nx,.slice (some ⟨pa,0,none⟩) ps.length cpa])∧w''.cell? ⟨tb,0,none⟩=some (.pointer (some ⟨gb,0,none⟩))∧w''.cell? ⟨tb,2,none⟩=some (I Z t.z))) (by kernel_rfl) (by (try dsimp only);first | exact ⟨F6.out,F7.out,m0,m2⟩ | go_keep) (fun hHeld=>?_)
   obtain ⟨v_32,hw1⟩:∃ v_32,v_32=W4.drew:=⟨_,rfl⟩
   rw [← hw1] at F6 F7 FT Ppa FB hHeld ⊢
   clear hw1
   have m0:=FT.out.c 0 _ rfl
   have m2:=FT.out.c 2 _ rfl
   refine tkz 0 rfl ?_
   refine tkz 1 rfl ?_
   refine tkz 2 rfl ?_
   refine tkz 3 rfl ?_
   refine tkz 4 rfl ?_ (hy:=Or.inl ⟨by kernel_rfl,fun wx hSw=>exec_load_blk 31 _ Tryz.underlying31 (by kernel_rfl) rfl rfl hSw.1⟩)
   refine tkz 5 rfl ?_ (hy:=Or.inl ⟨by kernel_rfl,fun wx hSw=>exec_load_blk 35 _ Tryz.underlying35 (by kernel_rfl) rfl rfl hSw.2.1⟩)
   refine tkz 6 rfl ?_
   refine tkz 7 rfl ?_
   refine tkz 8 rfl ?_
   refine tkz 9 rfl ?_
   refine tkz 10 rfl ?_
   refine tkz 11 rfl ?_
   refine rd1 12 (fun K hK=>?_)
   go_simp
   refine (implBoardAt_n h nx (ps.map (alightP t.z ca fl)) ps.length (List.length_map _) t.z ca fl pa cpa hl K2.out _ Ppa.out.bl.2 (fun i p e=>Ppa.out.p7 e)).mono ?_
   rintro e v_33 ⟨pd,cpd,rfl,ho,hb⟩
   have lpd:b7 < pd:=Nat.lt_of_lt_of_le F7.out.lt ho.bl.1
   have Ppd:=zH (ho.base FB.out.size)
   have F6:=bB F6 hb
   have F7:=bB F7 hb
   have FT:=zH (FT.out.below hb FT.out.lt)
   have Ppa:Hid (Ow v_33 w.heap.size pa ps.length cpa (ps.map (alightP t.z ca fl))):=Ppa.out.below hb Ppa.out.bl.2
   have FB:=tB FB hb
   clear hb
   have m0:=FT.out.c 0 _ rfl
   have m2:=FT.out.c 2 _ rfl
   clear ho
   try dsimp only
   refine kp hK (fun hHeld=>?_)
   clear hK K
   refine tkz 13 rfl ?_
   refine tkz 14 rfl ?_
   refine tkz 15 rfl ?_
   refine rd1 16 (fun K hK=>?_)
   have k0:=(FB.out.cell (p:=⟨gb,13,none⟩) LT.out.2).trans Y13.out
   have k1:=(FB.out.cell (p:=⟨gb,14,none⟩) LT.out.2).trans Y14.out
   have f0:=(FB.out.frozen (p:=⟨gb,13,none⟩) LT.out.2).trans Z13.out
   have f1:=(FB.out.frozen (p:=⟨gb,14,none⟩) LT.out.2).trans Z14.out
   go_simp
   obtain ⟨v_34,hw2⟩:∃ v_34,v_34=putB v_33 gb 13 [I Z nx,.slice (some ⟨pd,0,none⟩) ps.length cpd]:=⟨_,rfl⟩
   change K _ (putB v_33 gb 13 [I Z nx,.slice (some ⟨pd,0,none⟩) ps.length cpd])
   rw [← hw2]
   clear k0 k1 f0 f1
   have F6:Hid (Blk v_34 b6 [I Z h.fl,I Z h.gp,I Z h.ln,I Z h.rf,I Z h.sp,I Z h.pu,I Z h.br,I Z h.dr,I Z h.lv,I Z h.dO,I Z h.ld,I Z h.qu]):=by rw [hw2];exact Blk.putB_other (by omega) _ 13 F6.out
   have F7:Hid (Blk v_34 b7 [I Z nx,.slice (some ⟨pa,0,none⟩) ps.length cpa]):=by rw [hw2];exact Blk.putB_other (by omega) _ 13 F7.out
   have FT:Hid (Blk v_34 tb (tPh gb g1 i t)):=by rw [hw2];exact Blk.putB_other q1 _ 13 FT.out
   have Ppd:Hid (∃ p c W1,Below w.heap.size w W1∧Ow W1 w.heap.size p ps.length c (boardS h.ld t.z ca fl (ps.map (alightP t.z ca fl)) ps.length)∧v_34=putB W1 gb 13 [I Z nx,.slice (some ⟨p,0,none⟩) ps.length c]):=by rw [hw2];exact ⟨_,_,_,FB.out,Ppd.out,rfl⟩
   clear hw2
   have m0:=FT.out.c 0 _ rfl
   have m2:=FT.out.c 2 _ rfl
   refine kp hK (fun hHeld=>?_)
   clear hK K
   refine wpAnyH_done (by kernel_rfl) ?_ _
   go_wp2_with fail
   exact bodyPost_end (results_none rfl _ _ _) rfl ⟨rfl,Ppd.out⟩
  ·have y16:=(FB.out.cell (p:=⟨gb,16,none⟩) LT.out.2).trans Y16.out
   have m0:=(FB.out.cell (p:=⟨tb,0,none⟩) LT.out.1).trans X0.out
   go_wp2_with fail
   clear y16 m0
   have F6:=zH (F6.out.below (Below.refl _ _).drew F6.out.lt)
   have F7:=zH (F7.out.below (Below.refl _ _).drew F7.out.lt)
   have FT:=zH (FT.out.below (Below.refl _ _).drew FT.out.lt)
   have FB:=zH (FB.out.drew)
   have m0:=FT.out.c 0 _ rfl
   have m2:=FT.out.c 2 _ rfl
   refine wp_region_held_drew (S:=(fun w''=>Blk w'' b6 ([I Z h.fl,I Z h.gp,I Z h.ln,I Z h.rf,I Z h.sp,I Z h.pu,I Z h.br,I Z h.dr,I Z h.lv,I Z h.dO,I Z h.ld,I Z h.qu])∧Blk w'' b7 ([I Z nx,.slice (some ⟨g2,0,none⟩) ps.length c2])∧w''.cell? ⟨tb,0,none⟩=some (.pointer (some ⟨gb,0,none⟩))∧w''.cell? ⟨tb,2,none⟩=some (I Z t.z))) (by kernel_rfl) (by (try dsimp only);first | exact ⟨F6.out,F7.out,m0,m2⟩ | go_keep) (fun hHeld=>?_)
   obtain ⟨v_35,hw1⟩:∃ v_35,v_35=wc.drew:=⟨_,rfl⟩
   rw [← hw1] at F6 F7 FT FB hHeld ⊢
   clear hw1
   have m0:=FT.out.c 0 _ rfl
   have m2:=FT.out.c 2 _ rfl
   refine tkz 0 rfl ?_
   refine tkz 1 rfl ?_
   refine tkz 2 rfl ?_
   refine tkz 3 rfl ?_
   refine tkz 4 rfl ?_ (hy:=Or.inl ⟨by kernel_rfl,fun wx hSw=>exec_load_blk 31 _ Tryz.underlying31 (by kernel_rfl) rfl rfl hSw.1⟩)
   refine tkz 5 rfl ?_ (hy:=Or.inl ⟨by kernel_rfl,fun wx hSw=>exec_load_blk 35 _ Tryz.underlying35 (by kernel_rfl) rfl rfl hSw.2.1⟩)
   refine tkz 6 rfl ?_
   refine tkz 7 rfl ?_
   refine tkz 8 rfl ?_
   refine tkz 9 rfl ?_
   refine tkz 10 rfl ?_
   refine tkz 11 rfl ?_
   refine rd1 12 (fun K hK=>?_)
   go_simp
   refine (implLetOut_g h ⟨nx,ps⟩ t.z ca fl g2 0 c2 (by simpa using hl) K1.out _ (HO.out.below FB.out LT2.out).bl.2 (fun i p e=>by have q:=(HO.out.below FB.out LT2.out).p7 e;simpa using q)).mono ?_
   rintro e v_36 ⟨pa,cpa,rfl,ho,hb⟩
   have lpa:b7 < pa:=Nat.lt_of_lt_of_le F7.out.lt ho.bl.1
   have Ppa:=zH (ho.base FB.out.size)
   have F6:=bB F6 hb
   have F7:=bB F7 hb
   have FT:=zH (FT.out.below hb FT.out.lt)
   have FB:=tB FB hb
   clear hb
   have m0:=FT.out.c 0 _ rfl
   have m2:=FT.out.c 2 _ rfl
   clear ho
   try dsimp only
   refine kp hK (fun hHeld=>?_)
   clear hK K
   refine tkz 13 rfl ?_
   refine tkz 14 rfl ?_
   refine tkz 15 rfl ?_
   refine rd1 16 (fun K hK=>?_)
   have k0:=(FB.out.cell (p:=⟨gb,13,none⟩) LT.out.2).trans Y13.out
   have k1:=(FB.out.cell (p:=⟨gb,14,none⟩) LT.out.2).trans Y14.out
   have f0:=(FB.out.frozen (p:=⟨gb,13,none⟩) LT.out.2).trans Z13.out
   have f1:=(FB.out.frozen (p:=⟨gb,14,none⟩) LT.out.2).trans Z14.out
   go_simp
   obtain ⟨v_37,hw2⟩:∃ v_37,v_37=putB v_36 gb 13 [I Z nx,.slice (some ⟨pa,0,none⟩) ps.length cpa]:=⟨_,rfl⟩
   change K _ (putB v_36 gb 13 [I Z nx,.slice (some ⟨pa,0,none⟩) ps.length cpa])
   rw [← hw2]
   clear k0 k1 f0 f1
   have F6:Hid (Blk v_37 b6 [I Z h.fl,I Z h.gp,I Z h.ln,I Z h.rf,I Z h.sp,I Z h.pu,I Z h.br,I Z h.dr,I Z h.lv,I Z h.dO,I Z h.ld,I Z h.qu]):=by rw [hw2];exact Blk.putB_other (by omega) _ 13 F6.out
   have F7:Hid (Blk v_37 b7 [I Z nx,.slice (some ⟨g2,0,none⟩) ps.length c2]):=by rw [hw2];exact Blk.putB_other (by omega) _ 13 F7.out
   have FT:Hid (Blk v_37 tb (tPh gb g1 i t)):=by rw [hw2];exact Blk.putB_other q1 _ 13 FT.out
   have Ppa:Hid (∃ p c W1,Below w.heap.size w W1∧Ow W1 w.heap.size p ps.length c (ps.map (outP t.z ca fl))∧v_37=putB W1 gb 13 [I Z nx,.slice (some ⟨p,0,none⟩) ps.length c]):=by rw [hw2];exact ⟨_,_,_,FB.out,Ppa.out,rfl⟩
   clear hw2
   have m0:=FT.out.c 0 _ rfl
   have m2:=FT.out.c 2 _ rfl
   refine kp hK (fun hHeld=>?_)
   clear hK K
   refine wpAnyH_done (by kernel_rfl) ?_ _
   go_wp2_with fail
   exact bodyPost_ret (v:=.tuple #[]) (results_none rfl _ _ _) rfl ⟨rfl,Ppa.out⟩
end Go.Proofs.YteimojoicfjdjaaGreat
