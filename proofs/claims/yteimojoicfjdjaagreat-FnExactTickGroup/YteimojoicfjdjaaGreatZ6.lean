/- Parts of the proof: Cells, CellsP, Pers. -/
import Derived.Test.YteimojoicfjdjaaGreatZ2
import Derived.Test.YteimojoicfjdjaaGreatZ5
import Derived.Deep.DeepCutAuto
namespace Go.Proofs.YteimojoicfjdjaaGreat
open Value renaming int → I
open IntKind renaming i64 → Z
open Go.RowKit Pl
theorem HAt.alloc{W:World}{b:Nat}{h:Hs}(a:HAt W b h)(o:Obj):HAt (W.alloc o) b h:=a.below ((Below.refl _ _).alloc (Nat.le_refl _) o) a.lt
theorem HAt.at_(w:World)(h:Hs)(T:TypeId)(b:Nat)(hb:b=w.heap.size):HAt (w.alloc (.cells #[I Z h.fl,I Z h.gp,I Z h.ln,I Z h.rf,I Z h.sp,I Z h.pu,I Z h.br,I Z h.dr,I Z h.lv,I Z h.dO,I Z h.ld,I Z h.qu] T)) b h:=by
 subst hb;exact HAt.new w h T
structure CW(w:World)(b:Nat)(c:Cs):Prop where
 c0:w.cell? ⟨b,0,none⟩=some (I Z c.pos)
 c1:w.cell? ⟨b,1,none⟩=some (I Z c.vel)
 c2:w.cell? ⟨b,2,none⟩=some (I Z c.door)
 f0:w.frozen? ⟨b,0,none⟩=false
 f1:w.frozen? ⟨b,1,none⟩=false
 f2:w.frozen? ⟨b,2,none⟩=false
theorem CW.lt{w:World}{b:Nat}{c:Cs}(a:CW w b c):b < w.heap.size:=World.block_lt_of_cell? w _ a.c0
theorem CW.at_(w:World)(c:Cs)(T:TypeId)(b:Nat)(hb:b=w.heap.size):CW (w.alloc (.cells #[I Z c.pos,I Z c.vel,I Z c.door] T)) b c:=by
 subst hb
 constructor <;> simp
theorem CW.of{W w:World}{b:Nat}{c:Cs}(a:CW W b c)(hc:∀ o,w.cell? ⟨b,o,none⟩=W.cell? ⟨b,o,none⟩)(hf:∀ o,w.frozen? ⟨b,o,none⟩=W.frozen? ⟨b,o,none⟩):CW w b c:=
 ⟨(hc 0).trans a.c0,(hc 1).trans a.c1,(hc 2).trans a.c2,(hf 0).trans a.f0,(hf 1).trans a.f1,(hf 2).trans a.f2⟩
theorem CW.below{W w:World}{b B:Nat}{c:Cs}(a:CW W b c)(hb:Below B W w)(hB:b < B):CW w b c:=
 a.of (fun o=>hb.cell (p:=⟨b,o,none⟩) hB) (fun o=>hb.frozen (p:=⟨b,o,none⟩) hB)
theorem CW.alloc{W:World}{b:Nat}{c:Cs}(a:CW W b c)(o:Obj):CW (W.alloc o) b c:=a.below ((Below.refl _ _).alloc (Nat.le_refl _) o) a.lt
theorem CW.other{W:World}{b k o:Nat}{u:Value}{c:Cs}(a:CW W b c)(hne:b ≠ k):CW (W.setCell ⟨k,o,none⟩ u) b c:=
 a.of (fun _=>World.cell?_setCell_other _ _ _ _ (fun e=>hne (congrArg Addr.block e).symm)) (fun _=>World.frozen?_setCell _ _ _ _)
theorem CW.set_pos{W:World}{b:Nat}{c:Cs}(a:CW W b c)(y:Int):CW (W.setCell ⟨b,0,none⟩ (I Z y)) b { c with pos:=y }:=
 ⟨World.cell?_setCell_same _ _ _ a.c0,(World.cell?_setCell_other _ _ _ _ (by simp)).trans a.c1,(World.cell?_setCell_other _ _ _ _ (by simp)).trans a.c2,(World.frozen?_setCell _ _ _ _).trans a.f0,(World.frozen?_setCell _ _ _ _).trans a.f1,(World.frozen?_setCell _ _ _ _).trans a.f2⟩
theorem CW.set_vel{W:World}{b:Nat}{c:Cs}(a:CW W b c)(y:Int):CW (W.setCell ⟨b,1,none⟩ (I Z y)) b { c with vel:=y }:=
 ⟨(World.cell?_setCell_other _ _ _ _ (by simp)).trans a.c0,World.cell?_setCell_same _ _ _ a.c1,(World.cell?_setCell_other _ _ _ _ (by simp)).trans a.c2,(World.frozen?_setCell _ _ _ _).trans a.f0,(World.frozen?_setCell _ _ _ _).trans a.f1,(World.frozen?_setCell _ _ _ _).trans a.f2⟩
theorem CW.set_door{W:World}{b:Nat}{c:Cs}(a:CW W b c)(y:Int):CW (W.setCell ⟨b,2,none⟩ (I Z y)) b { c with door:=y }:=
 ⟨(World.cell?_setCell_other _ _ _ _ (by simp)).trans a.c0,(World.cell?_setCell_other _ _ _ _ (by simp)).trans a.c1,World.cell?_setCell_same _ _ _ a.c2,(World.frozen?_setCell _ _ _ _).trans a.f0,(World.frozen?_setCell _ _ _ _).trans a.f1,(World.frozen?_setCell _ _ _ _).trans a.f2⟩
structure SW(w:World)(b:Nat)(s:Sh):Prop where
 c0:w.cell? ⟨b,0,none⟩=some (I Z s.lo.pos)
 c1:w.cell? ⟨b,1,none⟩=some (I Z s.lo.vel)
 c2:w.cell? ⟨b,2,none⟩=some (I Z s.lo.door)
 c3:w.cell? ⟨b,3,none⟩=some (I Z s.up.pos)
 c4:w.cell? ⟨b,4,none⟩=some (I Z s.up.vel)
 c5:w.cell? ⟨b,5,none⟩=some (I Z s.up.door)
 f0:w.frozen? ⟨b,0,none⟩=false
 f1:w.frozen? ⟨b,1,none⟩=false
 f2:w.frozen? ⟨b,2,none⟩=false
 f3:w.frozen? ⟨b,3,none⟩=false
 f4:w.frozen? ⟨b,4,none⟩=false
 f5:w.frozen? ⟨b,5,none⟩=false
theorem SW.lt{w:World}{b:Nat}{s:Sh}(a:SW w b s):b < w.heap.size:=World.block_lt_of_cell? w _ a.c0
theorem SW.at_(w:World)(s:Sh)(T:TypeId)(b:Nat)(hb:b=w.heap.size):SW (w.alloc (.cells #[I Z s.lo.pos,I Z s.lo.vel,I Z s.lo.door,I Z s.up.pos,I Z s.up.vel,I Z s.up.door] T)) b s:=by
 subst hb
 constructor <;> simp
theorem SW.of{W w:World}{b:Nat}{s:Sh}(a:SW W b s)(hc:∀ o,w.cell? ⟨b,o,none⟩=W.cell? ⟨b,o,none⟩)(hf:∀ o,w.frozen? ⟨b,o,none⟩=W.frozen? ⟨b,o,none⟩):SW w b s:=
 ⟨(hc 0).trans a.c0,(hc 1).trans a.c1,(hc 2).trans a.c2,(hc 3).trans a.c3,(hc 4).trans a.c4,(hc 5).trans a.c5,(hf 0).trans a.f0,(hf 1).trans a.f1,(hf 2).trans a.f2,(hf 3).trans a.f3,(hf 4).trans a.f4,(hf 5).trans a.f5⟩
theorem SW.below{W w:World}{b B:Nat}{s:Sh}(a:SW W b s)(hb:Below B W w)(hB:b < B):SW w b s:=
 a.of (fun o=>hb.cell (p:=⟨b,o,none⟩) hB) (fun o=>hb.frozen (p:=⟨b,o,none⟩) hB)
theorem SW.alloc{W:World}{b:Nat}{s:Sh}(a:SW W b s)(o:Obj):SW (W.alloc o) b s:=a.below ((Below.refl _ _).alloc (Nat.le_refl _) o) a.lt
theorem SW.drew{W:World}{b:Nat}{s:Sh}(a:SW W b s):SW W.drew b s:=a.below (Below.refl W.heap.size W).drew a.lt
theorem SW.other{W:World}{b k o:Nat}{u:Value}{s:Sh}(a:SW W b s)(hne:b ≠ k):SW (W.setCell ⟨k,o,none⟩ u) b s:=
 a.of (fun _=>World.cell?_setCell_other _ _ _ _ (fun e=>hne (congrArg Addr.block e).symm)) (fun _=>World.frozen?_setCell _ _ _ _)
structure R2(w:World)(b:Nat):Prop where
 c0:w.cell? ⟨b,0,none⟩=some (I Z 0)
 c1:w.cell? ⟨b,1,none⟩=some (I Z 0)
 f0:w.frozen? ⟨b,0,none⟩=false
 f1:w.frozen? ⟨b,1,none⟩=false
structure R3(w:World)(b:Nat):Prop where
 c0:w.cell? ⟨b,0,none⟩=some (I Z 0)
 c1:w.cell? ⟨b,1,none⟩=some (I Z 0)
 c2:w.cell? ⟨b,2,none⟩=some (I Z 0)
 f0:w.frozen? ⟨b,0,none⟩=false
 f1:w.frozen? ⟨b,1,none⟩=false
 f2:w.frozen? ⟨b,2,none⟩=false
theorem R3.lt{w:World}{b:Nat}(a:R3 w b):b < w.heap.size:=World.block_lt_of_cell? w _ a.c0
theorem R3.at_(w:World)(T:TypeId)(b:Nat)(hb:b=w.heap.size):R3 (w.alloc (.cells #[I Z 0,I Z 0,I Z 0] T)) b:=by
 subst hb
 constructor <;> simp
theorem R3.of{W w:World}{b:Nat}(a:R3 W b)(hc:∀ o,w.cell? ⟨b,o,none⟩=W.cell? ⟨b,o,none⟩)(hf:∀ o,w.frozen? ⟨b,o,none⟩=W.frozen? ⟨b,o,none⟩):R3 w b:=
 ⟨(hc 0).trans a.c0,(hc 1).trans a.c1,(hc 2).trans a.c2,(hf 0).trans a.f0,(hf 1).trans a.f1,(hf 2).trans a.f2⟩
theorem R3.below{W w:World}{b B:Nat}(a:R3 W b)(hb:Below B W w)(hB:b < B):R3 w b:=
 a.of (fun o=>hb.cell (p:=⟨b,o,none⟩) hB) (fun o=>hb.frozen (p:=⟨b,o,none⟩) hB)
theorem R3.alloc{W:World}{b:Nat}(a:R3 W b)(o:Obj):R3 (W.alloc o) b:=a.below ((Below.refl _ _).alloc (Nat.le_refl _) o) a.lt
structure R6(w:World)(b:Nat):Prop where
 c0:w.cell? ⟨b,0,none⟩=some (I Z 0)
 c1:w.cell? ⟨b,1,none⟩=some (I Z 0)
 c2:w.cell? ⟨b,2,none⟩=some (I Z 0)
 c3:w.cell? ⟨b,3,none⟩=some (I Z 0)
 c4:w.cell? ⟨b,4,none⟩=some (I Z 0)
 c5:w.cell? ⟨b,5,none⟩=some (I Z 0)
 f0:w.frozen? ⟨b,0,none⟩=false
 f1:w.frozen? ⟨b,1,none⟩=false
 f2:w.frozen? ⟨b,2,none⟩=false
 f3:w.frozen? ⟨b,3,none⟩=false
 f4:w.frozen? ⟨b,4,none⟩=false
 f5:w.frozen? ⟨b,5,none⟩=false
theorem R6.lt{w:World}{b:Nat}(a:R6 w b):b < w.heap.size:=World.block_lt_of_cell? w _ a.c0
theorem R6.at_(w:World)(T:TypeId)(b:Nat)(hb:b=w.heap.size):R6 (w.alloc (.cells #[I Z 0,I Z 0,I Z 0,I Z 0,I Z 0,I Z 0] T)) b:=by
 subst hb
 constructor <;> simp
theorem R6.of{W w:World}{b:Nat}(a:R6 W b)(hc:∀ o,w.cell? ⟨b,o,none⟩=W.cell? ⟨b,o,none⟩)(hf:∀ o,w.frozen? ⟨b,o,none⟩=W.frozen? ⟨b,o,none⟩):R6 w b:=
 ⟨(hc 0).trans a.c0,(hc 1).trans a.c1,(hc 2).trans a.c2,(hc 3).trans a.c3,(hc 4).trans a.c4,(hc 5).trans a.c5,(hf 0).trans a.f0,(hf 1).trans a.f1,(hf 2).trans a.f2,(hf 3).trans a.f3,(hf 4).trans a.f4,(hf 5).trans a.f5⟩
theorem R6.below{W w:World}{b B:Nat}(a:R6 W b)(hb:Below B W w)(hB:b < B):R6 w b:=
 a.of (fun o=>hb.cell (p:=⟨b,o,none⟩) hB) (fun o=>hb.frozen (p:=⟨b,o,none⟩) hB)
theorem R6.alloc{W:World}{b:Nat}(a:R6 W b)(o:Obj):R6 (W.alloc o) b:=a.below ((Below.refl _ _).alloc (Nat.le_refl _) o) a.lt
theorem R6.other{W:World}{b k o:Nat}{u:Value}(a:R6 W b)(hne:b ≠ k):R6 (W.setCell ⟨k,o,none⟩ u) b:=
 a.of (fun _=>World.cell?_setCell_other _ _ _ _ (fun e=>hne (congrArg Addr.block e).symm)) (fun _=>World.frozen?_setCell _ _ _ _)
def putLo(W:World)(b:Nat)(c:Cs):World:=((W.setCell ⟨b,0,none⟩ (I Z c.pos)).setCell ⟨b,1,none⟩ (I Z c.vel)).setCell ⟨b,2,none⟩ (I Z c.door)
def putUp(W:World)(b:Nat)(c:Cs):World:=((W.setCell ⟨b,3,none⟩ (I Z c.pos)).setCell ⟨b,4,none⟩ (I Z c.vel)).setCell ⟨b,5,none⟩ (I Z c.door)
theorem R6.lo{W:World}{b:Nat}(a:R6 W b)(c:Cs):SW (putLo W b c) b ⟨c,⟨0,0,0⟩⟩:=
 ⟨((World.cell?_setCell_other _ _ _ _ (by simp)).trans (((World.cell?_setCell_other _ _ _ _ (by simp)).trans ((World.cell?_setCell_same _ _ _ (a.c0)))))),((World.cell?_setCell_other _ _ _ _ (by simp)).trans ((World.cell?_setCell_same _ _ _ (((World.cell?_setCell_other _ _ _ _ (by simp)).trans (a.c1)))))),(World.cell?_setCell_same _ _ _ (((World.cell?_setCell_other _ _ _ _ (by simp)).trans (((World.cell?_setCell_other _ _ _ _ (by simp)).trans (a.c2)))))),((World.cell?_setCell_other _ _ _ _ (by simp)).trans (((World.cell?_setCell_other _ _ _ _ (by simp)).trans (((World.cell?_setCell_other _ _ _ _ (by simp)).trans (a.c3)))))),((World.cell?_setCell_other _ _ _ _ (by simp)).trans (((World.cell?_setCell_other _ _ _ _ (by simp)).trans (((World.cell?_setCell_other _ _ _ _ (by simp)).trans (a.c4)))))),((World.cell?_setCell_other _ _ _ _ (by simp)).trans (((World.cell?_setCell_other _ _ _ _ (by simp)).trans (((World.cell?_setCell_other _ _ _ _ (by simp)).trans (a.c5)))))),(World.frozen?_setCell _ _ _ _).trans ((World.frozen?_setCell _ _ _ _).trans ((World.frozen?_setCell _ _ _ _).trans (a.f0))),(World.frozen?_setCell _ _ _ _).trans ((World.frozen?_setCell _ _ _ _).trans ((World.frozen?_setCell _ _ _ _).trans (a.f1))),(World.frozen?_setCell _ _ _ _).trans ((World.frozen?_setCell _ _ _ _).trans ((World.frozen?_setCell _ _ _ _).trans (a.f2))),(World.frozen?_setCell _ _ _ _).trans ((World.frozen?_setCell _ _ _ _).trans ((World.frozen?_setCell _ _ _ _).trans (a.f3))),(World.frozen?_setCell _ _ _ _).trans ((World.frozen?_setCell _ _ _ _).trans ((World.frozen?_setCell _ _ _ _).trans (a.f4))),(World.frozen?_setCell _ _ _ _).trans ((World.frozen?_setCell _ _ _ _).trans ((World.frozen?_setCell _ _ _ _).trans (a.f5)))⟩
theorem SW.up_{W:World}{b:Nat}{s:Sh}(a:SW W b s)(c:Cs):SW (putUp W b c) b ⟨s.lo,c⟩:=
 ⟨((World.cell?_setCell_other _ _ _ _ (by simp)).trans (((World.cell?_setCell_other _ _ _ _ (by simp)).trans (((World.cell?_setCell_other _ _ _ _ (by simp)).trans (a.c0)))))),((World.cell?_setCell_other _ _ _ _ (by simp)).trans (((World.cell?_setCell_other _ _ _ _ (by simp)).trans (((World.cell?_setCell_other _ _ _ _ (by simp)).trans (a.c1)))))),((World.cell?_setCell_other _ _ _ _ (by simp)).trans (((World.cell?_setCell_other _ _ _ _ (by simp)).trans (((World.cell?_setCell_other _ _ _ _ (by simp)).trans (a.c2)))))),((World.cell?_setCell_other _ _ _ _ (by simp)).trans (((World.cell?_setCell_other _ _ _ _ (by simp)).trans ((World.cell?_setCell_same _ _ _ (a.c3)))))),((World.cell?_setCell_other _ _ _ _ (by simp)).trans ((World.cell?_setCell_same _ _ _ (((World.cell?_setCell_other _ _ _ _ (by simp)).trans (a.c4)))))),(World.cell?_setCell_same _ _ _ (((World.cell?_setCell_other _ _ _ _ (by simp)).trans (((World.cell?_setCell_other _ _ _ _ (by simp)).trans (a.c5)))))),(World.frozen?_setCell _ _ _ _).trans ((World.frozen?_setCell _ _ _ _).trans ((World.frozen?_setCell _ _ _ _).trans (a.f0))),(World.frozen?_setCell _ _ _ _).trans ((World.frozen?_setCell _ _ _ _).trans ((World.frozen?_setCell _ _ _ _).trans (a.f1))),(World.frozen?_setCell _ _ _ _).trans ((World.frozen?_setCell _ _ _ _).trans ((World.frozen?_setCell _ _ _ _).trans (a.f2))),(World.frozen?_setCell _ _ _ _).trans ((World.frozen?_setCell _ _ _ _).trans ((World.frozen?_setCell _ _ _ _).trans (a.f3))),(World.frozen?_setCell _ _ _ _).trans ((World.frozen?_setCell _ _ _ _).trans ((World.frozen?_setCell _ _ _ _).trans (a.f4))),(World.frozen?_setCell _ _ _ _).trans ((World.frozen?_setCell _ _ _ _).trans ((World.frozen?_setCell _ _ _ _).trans (a.f5)))⟩
def put6(W:World)(b:Nat)(s:Sh):World:=((((((W.setCell ⟨b,0,none⟩ (I Z s.lo.pos)).setCell ⟨b,1,none⟩ (I Z s.lo.vel)).setCell ⟨b,2,none⟩ (I Z s.lo.door)).setCell ⟨b,3,none⟩ (I Z s.up.pos)).setCell ⟨b,4,none⟩ (I Z s.up.vel)).setCell ⟨b,5,none⟩ (I Z s.up.door))
theorem R6.put{W:World}{b:Nat}(a:R6 W b)(s:Sh):SW (put6 W b s) b s:=
 ⟨((World.cell?_setCell_other _ _ _ _ (by simp)).trans (((World.cell?_setCell_other _ _ _ _ (by simp)).trans (((World.cell?_setCell_other _ _ _ _ (by simp)).trans (((World.cell?_setCell_other _ _ _ _ (by simp)).trans (((World.cell?_setCell_other _ _ _ _ (by simp)).trans ((World.cell?_setCell_same _ _ _ (a.c0)))))))))))),((World.cell?_setCell_other _ _ _ _ (by simp)).trans (((World.cell?_setCell_other _ _ _ _ (by simp)).trans (((World.cell?_setCell_other _ _ _ _ (by simp)).trans (((World.cell?_setCell_other _ _ _ _ (by simp)).trans ((World.cell?_setCell_same _ _ _ (((World.cell?_setCell_other _ _ _ _ (by simp)).trans (a.c1)))))))))))),((World.cell?_setCell_other _ _ _ _ (by simp)).trans (((World.cell?_setCell_other _ _ _ _ (by simp)).trans (((World.cell?_setCell_other _ _ _ _ (by simp)).trans ((World.cell?_setCell_same _ _ _ (((World.cell?_setCell_other _ _ _ _ (by simp)).trans (((World.cell?_setCell_other _ _ _ _ (by simp)).trans (a.c2)))))))))))),((World.cell?_setCell_other _ _ _ _ (by simp)).trans (((World.cell?_setCell_other _ _ _ _ (by simp)).trans ((World.cell?_setCell_same _ _ _ (((World.cell?_setCell_other _ _ _ _ (by simp)).trans (((World.cell?_setCell_other _ _ _ _ (by simp)).trans (((World.cell?_setCell_other _ _ _ _ (by simp)).trans (a.c3)))))))))))),((World.cell?_setCell_other _ _ _ _ (by simp)).trans ((World.cell?_setCell_same _ _ _ (((World.cell?_setCell_other _ _ _ _ (by simp)).trans (((World.cell?_setCell_other _ _ _ _ (by simp)).trans (((World.cell?_setCell_other _ _ _ _ (by simp)).trans (((World.cell?_setCell_other _ _ _ _ (by simp)).trans (a.c4)))))))))))),(World.cell?_setCell_same _ _ _ (((World.cell?_setCell_other _ _ _ _ (by simp)).trans (((World.cell?_setCell_other _ _ _ _ (by simp)).trans (((World.cell?_setCell_other _ _ _ _ (by simp)).trans (((World.cell?_setCell_other _ _ _ _ (by simp)).trans (((World.cell?_setCell_other _ _ _ _ (by simp)).trans (a.c5)))))))))))),(World.frozen?_setCell _ _ _ _).trans ((World.frozen?_setCell _ _ _ _).trans ((World.frozen?_setCell _ _ _ _).trans ((World.frozen?_setCell _ _ _ _).trans ((World.frozen?_setCell _ _ _ _).trans ((World.frozen?_setCell _ _ _ _).trans (a.f0)))))),(World.frozen?_setCell _ _ _ _).trans ((World.frozen?_setCell _ _ _ _).trans ((World.frozen?_setCell _ _ _ _).trans ((World.frozen?_setCell _ _ _ _).trans ((World.frozen?_setCell _ _ _ _).trans ((World.frozen?_setCell _ _ _ _).trans (a.f1)))))),(World.frozen?_setCell _ _ _ _).trans ((World.frozen?_setCell _ _ _ _).trans ((World.frozen?_setCell _ _ _ _).trans ((World.frozen?_setCell _ _ _ _).trans ((World.frozen?_setCell _ _ _ _).trans ((World.frozen?_setCell _ _ _ _).trans (a.f2)))))),(World.frozen?_setCell _ _ _ _).trans ((World.frozen?_setCell _ _ _ _).trans ((World.frozen?_setCell _ _ _ _).trans ((World.frozen?_setCell _ _ _ _).trans ((World.frozen?_setCell _ _ _ _).trans ((World.frozen?_setCell _ _ _ _).trans (a.f3)))))),(World.frozen?_setCell _ _ _ _).trans ((World.frozen?_setCell _ _ _ _).trans ((World.frozen?_setCell _ _ _ _).trans ((World.frozen?_setCell _ _ _ _).trans ((World.frozen?_setCell _ _ _ _).trans ((World.frozen?_setCell _ _ _ _).trans (a.f4)))))),(World.frozen?_setCell _ _ _ _).trans ((World.frozen?_setCell _ _ _ _).trans ((World.frozen?_setCell _ _ _ _).trans ((World.frozen?_setCell _ _ _ _).trans ((World.frozen?_setCell _ _ _ _).trans ((World.frozen?_setCell _ _ _ _).trans (a.f5))))))⟩
theorem below_putLo{B:Nat}{w W:World}(h:Below B w W){b:Nat}(hb:B≤b)(c:Cs):Below B w (putLo W b c):=(((h.setCell hb _).setCell hb _).setCell hb _)
theorem below_putUp{B:Nat}{w W:World}(h:Below B w W){b:Nat}(hb:B≤b)(c:Cs):Below B w (putUp W b c):=(((h.setCell hb _).setCell hb _).setCell hb _)
theorem below_put6{B:Nat}{w W:World}(h:Below B w W){b:Nat}(hb:B≤b)(s:Sh):Below B w (put6 W b s):=((((((h.setCell hb _).setCell hb _).setCell hb _).setCell hb _).setCell hb _).setCell hb _)
theorem SW.putLo{W:World}{b k:Nat}{s:Sh}(a:SW W b s)(hne:b ≠ k)(c:Cs):SW (putLo W k c) b s:=((a.other hne).other hne).other hne
theorem R6.putLo{W:World}{b k:Nat}(a:R6 W b)(hne:b ≠ k)(c:Cs):R6 (putLo W k c) b:=((a.other hne).other hne).other hne
theorem R6.putUp{W:World}{b k:Nat}(a:R6 W b)(hne:b ≠ k)(c:Cs):R6 (putUp W k c) b:=((a.other hne).other hne).other hne
end Go.Proofs.YteimojoicfjdjaaGreat
namespace Go.Proofs.YteimojoicfjdjaaGreat
open Go.RowKit Pl
theorem cellS{W:World}{b k o p:Nat}{v:Value}(hne:b ≠ k):(W.setCell ⟨k,o,none⟩ v).cell? ⟨b,p,none⟩=W.cell? ⟨b,p,none⟩:=World.cell?_setCell_other _ _ _ _ (fun e=>hne (congrArg Addr.block e).symm)
end Go.Proofs.YteimojoicfjdjaaGreat
namespace Go.Proofs.YteimojoicfjdjaaGreat.Pl
structure Pe where
 id:Int
 fr:Int
 tw:Int
 sh:Int
 ca:Int
 st:Int
 pl:Int
structure Lg where
 nx:Int
 ps:List Pe
end Go.Proofs.YteimojoicfjdjaaGreat.Pl
namespace Go.Proofs.YteimojoicfjdjaaGreat
open Value renaming int → I
open IntKind renaming i64 → Z
open Go.RowKit Pl
set_option linter.unusedSimpArgs false
set_option linter.unusedVariables false
structure P7(w:World)(b o:Nat)(p:Pe):Prop where
 c0:w.cell? ⟨b,o,none⟩=some (I Z p.id)
 c1:w.cell? ⟨b,o + 1,none⟩=some (I Z p.fr)
 c2:w.cell? ⟨b,o + 2,none⟩=some (I Z p.tw)
 c3:w.cell? ⟨b,o + 3,none⟩=some (I Z p.sh)
 c4:w.cell? ⟨b,o + 4,none⟩=some (I Z p.ca)
 c5:w.cell? ⟨b,o + 5,none⟩=some (I Z p.st)
 c6:w.cell? ⟨b,o + 6,none⟩=some (I Z p.pl)
theorem P7.lt{w:World}{b o:Nat}{p:Pe}(a:P7 w b o p):b < w.heap.size:=World.block_lt_of_cell? w _ a.c0
theorem P7.of{W w:World}{b o:Nat}{p:Pe}(a:P7 W b o p)(hc:∀ k,w.cell? ⟨b,k,none⟩=W.cell? ⟨b,k,none⟩):P7 w b o p:=
 ⟨(hc _).trans a.c0,(hc _).trans a.c1,(hc _).trans a.c2,(hc _).trans a.c3,(hc _).trans a.c4,(hc _).trans a.c5,(hc _).trans a.c6⟩
theorem P7.at_(w:World)(p:Pe)(T:TypeId)(b:Nat)(hb:b=w.heap.size):P7 (w.alloc (.cells #[I Z p.id,I Z p.fr,I Z p.tw,I Z p.sh,I Z p.ca,I Z p.st,I Z p.pl] T)) b 0 p:=by
 subst hb
 constructor <;> simp
theorem P7.below{W w:World}{b o B:Nat}{p:Pe}(a:P7 W b o p)(hb:Below B W w)(hB:b < B):P7 w b o p:=a.of (fun k=>hb.cell (p:=⟨b,k,none⟩) hB)
theorem P7.alloc{W:World}{b o:Nat}{p:Pe}(a:P7 W b o p)(ob:Obj):P7 (W.alloc ob) b o p:=a.below ((Below.refl _ _).alloc (Nat.le_refl _) ob) a.lt
def PIn(w:World)(B:Nat)(a:Option Addr)(l:List Pe):Prop:=l = [] ∨ ∃ b o,a=some ⟨b,o,none⟩∧b < B∧∀ i p,l[i]? = some p→P7 w b (o + i * 7) p
theorem PIn.below{W w:World}{B C:Nat}{a:Option Addr}{l:List Pe}(h:PIn W B a l)(hb:Below C W w)(hB:B≤C):PIn w B a l:=by
 rcases h with h | ⟨b,o,e,hl,h⟩
 ·exact Or.inl h
 ·exact Or.inr ⟨b,o,e,hl,fun i p hp=>(h i p hp).below hb (by omega)⟩
structure LAt(w:World)(b:Nat)(nx:Int)(a:Option Addr)(len cap:Nat):Prop where
 c0:w.cell? ⟨b,0,none⟩=some (I Z nx)
 c1:w.cell? ⟨b,1,none⟩=some (.slice a len cap)
theorem LAt.lt{w:World}{b:Nat}{nx:Int}{a:Option Addr}{len cap:Nat}(h:LAt w b nx a len cap):b < w.heap.size:=World.block_lt_of_cell? w _ h.c0
theorem LAt.below{W w:World}{b B:Nat}{nx:Int}{a:Option Addr}{len cap:Nat}(h:LAt W b nx a len cap)(hb:Below B W w)(hB:b < B):LAt w b nx a len cap:=
 ⟨(hb.cell (p:=⟨b,0,none⟩) hB).trans h.c0,(hb.cell (p:=⟨b,1,none⟩) hB).trans h.c1⟩
def isIn(st sh ca:Int)(p:Pe):Bool:=p.st == st && (decide (sh < 0) || (p.sh == sh && p.ca == ca))
def cnt(st sh ca:Int)(l:List Pe):Nat:=l.countP (isIn st sh ca)
theorem countP_take{f:Pe→Bool}{l:List Pe}{i:Nat}{p:Pe}(h:l[i]? = some p):(l.take (i + 1)).countP f=(l.take i).countP f + (if f p=true then 1 else 0):=by
 have hi:i < l.length:=(List.getElem?_eq_some_iff.1 h).1
 have e:l[i]=p:=(List.getElem?_eq_some_iff.1 h).2
 rw [List.take_succ_eq_append_getElem hi,List.countP_append,e]
 simp [List.countP_cons]
end Go.Proofs.YteimojoicfjdjaaGreat
