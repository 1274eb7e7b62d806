/- Parts of the proof: ToHouse. -/
import Derived.Test.YteimojoicfjdjaaGreatZ2
import Derived.Test.YteimojoicfjdjaaGreatZ4
namespace Go.Proofs.YteimojoicfjdjaaGreat
set_option maxHeartbeats 1000000
open Value renaming int → I
open IntKind renaming i64 → Z
open Go.RowKit Pl
structure HAt(w:World)(b:Nat)(h:Hs):Prop where
 c0:w.cell? ⟨b,0,none⟩=some (I Z h.fl)
 c1:w.cell? ⟨b,1,none⟩=some (I Z h.gp)
 c2:w.cell? ⟨b,2,none⟩=some (I Z h.ln)
 c3:w.cell? ⟨b,3,none⟩=some (I Z h.rf)
 c4:w.cell? ⟨b,4,none⟩=some (I Z h.sp)
 c5:w.cell? ⟨b,5,none⟩=some (I Z h.pu)
 c6:w.cell? ⟨b,6,none⟩=some (I Z h.br)
 c7:w.cell? ⟨b,7,none⟩=some (I Z h.dr)
 c8:w.cell? ⟨b,8,none⟩=some (I Z h.lv)
 c9:w.cell? ⟨b,9,none⟩=some (I Z h.dO)
 c10:w.cell? ⟨b,10,none⟩=some (I Z h.ld)
 c11:w.cell? ⟨b,11,none⟩=some (I Z h.qu)
theorem HAt.lt{w:World}{b:Nat}{h:Hs}(a:HAt w b h):b < w.heap.size:=World.block_lt_of_cell? w _ a.c0
theorem HAt.new(w:World)(h:Hs)(T:TypeId):HAt (w.alloc (.cells #[I Z h.fl,I Z h.gp,I Z h.ln,I Z h.rf,I Z h.sp,I Z h.pu,I Z h.br,I Z h.dr,I Z h.lv,I Z h.dO,I Z h.ld,I Z h.qu] T)) w.heap.size h:=by
 constructor <;> simp
theorem HAt.below{W w:World}{b B:Nat}{h:Hs}(a:HAt W b h)(hb:Below B W w)(hB:b < B):HAt w b h:=
 ⟨(hb.cell (p:=⟨b,0,none⟩) hB).trans a.c0,(hb.cell (p:=⟨b,1,none⟩) hB).trans a.c1,(hb.cell (p:=⟨b,2,none⟩) hB).trans a.c2,(hb.cell (p:=⟨b,3,none⟩) hB).trans a.c3,(hb.cell (p:=⟨b,4,none⟩) hB).trans a.c4,(hb.cell (p:=⟨b,5,none⟩) hB).trans a.c5,(hb.cell (p:=⟨b,6,none⟩) hB).trans a.c6,(hb.cell (p:=⟨b,7,none⟩) hB).trans a.c7,(hb.cell (p:=⟨b,8,none⟩) hB).trans a.c8,(hb.cell (p:=⟨b,9,none⟩) hB).trans a.c9,(hb.cell (p:=⟨b,10,none⟩) hB).trans a.c10,(hb.cell (p:=⟨b,11,none⟩) hB).trans a.c11⟩
theorem HAt.drew{w:World}{b:Nat}{h:Hs}(a:HAt w b h):HAt w.drew b h:=a.below (Below.refl w.heap.size w).drew a.lt
theorem toHouse_any(h:Hs)(w:World) :
  Calls Tryz.prog 19 #[.agg #[I Z h.fl,I Z h.gp,I Z h.ln,I Z h.rf,I Z h.sp,I Z h.pu,I Z h.br,I Z h.dr,I Z h.lv,I Z h.dO,I Z h.ld,I Z h.qu]] w fun e w'=>e=.returned (.agg #[I Z h.fl,I Z h.gp,I Z h.ln,I Z h.rf,I Z h.sp,I Z h.pu,I Z h.br,I Z h.dr,I Z h.lv,I Z h.dO,I Z h.ld,I Z h.qu])∧Below w.heap.size w w':=by
 go_enter Tryz.func19,Tryz.ntmps19
 go_wp2
 exact bodyPost_ret (v:=.agg #[I Z h.fl,I Z h.gp,I Z h.ln,I Z h.rf,I Z h.sp,I Z h.pu,I Z h.br,I Z h.dr,I Z h.lv,I Z h.dO,I Z h.ld,I Z h.qu]) (by simp [results,Tryz.results19,go_sem]) rfl ⟨rfl,(((Below.refl _ _).alloc (Nat.le_refl _) _).alloc (by simp) _).alloc (by simp;omega) _⟩
def hS(b:Nat)(h:Hs)(w:World):Prop:=w.cell? ⟨b,0,none⟩=some (.int .i64 h.fl)∧w.cell? ⟨b,1,none⟩=some (.int .i64 h.gp)∧w.cell? ⟨b,2,none⟩=some (.int .i64 h.ln)∧w.cell? ⟨b,3,none⟩=some (.int .i64 h.rf)∧w.cell? ⟨b,4,none⟩=some (.int .i64 h.sp)∧w.cell? ⟨b,5,none⟩=some (.int .i64 h.pu)∧w.cell? ⟨b,6,none⟩=some (.int .i64 h.br)∧w.cell? ⟨b,7,none⟩=some (.int .i64 h.dr)∧w.cell? ⟨b,8,none⟩=some (.int .i64 h.lv)∧w.cell? ⟨b,9,none⟩=some (.int .i64 h.dO)∧w.cell? ⟨b,10,none⟩=some (.int .i64 h.ld)∧w.cell? ⟨b,11,none⟩=some (.int .i64 h.qu)
abbrev hC(h:Hs):Array Value:=#[.int .i64 h.fl,.int .i64 h.gp,.int .i64 h.ln,.int .i64 h.rf,.int .i64 h.sp,.int .i64 h.pu,.int .i64 h.br,.int .i64 h.dr,.int .i64 h.lv,.int .i64 h.dO,.int .i64 h.ld,.int .i64 h.qu]
abbrev zC:Array Value:=#[.int .i64 0,.int .i64 0,.int .i64 0,.int .i64 0,.int .i64 0,.int .i64 0,.int .i64 0,.int .i64 0,.int .i64 0,.int .i64 0,.int .i64 0,.int .i64 0]
end Go.Proofs.YteimojoicfjdjaaGreat
