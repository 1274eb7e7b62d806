/- Parts of the proof: XLp. -/
import Derived.Test.YteimojoicfjdjaaGreatZ46
import Derived.Test.YteimojoicfjdjaaGreatZ48
namespace Go.Proofs.YteimojoicfjdjaaGreat
set_option maxRecDepth 20000
set_option maxHeartbeats 8000000
open Value renaming int → I
open IntKind renaming i64 → Z
open Go.RowKit Pl Sx
set_option linter.unusedVariables false
set_option linter.unusedSimpArgs false
def hRow(h:Hs):List Value:=[I Z h.fl,I Z h.gp,I Z h.ln,I Z h.rf,I Z h.sp,I Z h.pu,I Z h.br,I Z h.dr,I Z h.lv,I Z h.dO,I Z h.ld,I Z h.qu]
theorem house_any(tb gb:Nat)(h:Hs)(w:World)(x0:w.cell? ⟨tb,0,none⟩=some (.pointer (some ⟨gb,0,none⟩)))(y:∀ k v,(hRow h)[k]? = some v→w.cell? ⟨gb,k,none⟩=some v):Calls Tryz.prog 92 #[.pointer (some ⟨tb,0,none⟩)] w fun e w'=>e=.returned (hv h)∧Below w.heap.size w w':=by
 have l0:tb < w.heap.size:=World.block_lt_of_cell? w _ x0
 have l1:gb < w.heap.size:=World.block_lt_of_cell? w _ (y 0 _ rfl)
 have F0:Hid (Blk (w.alloc (.cells #[I Z 0,I Z 0,I Z 0,I Z 0,I Z 0,I Z 0,I Z 0,I Z 0,I Z 0,I Z 0,I Z 0,I Z 0] 31)) w.heap.size [I Z 0,I Z 0,I Z 0,I Z 0,I Z 0,I Z 0,I Z 0,I Z 0,I Z 0,I Z 0,I Z 0,I Z 0]):=Blk.at_ w #[I Z 0,I Z 0,I Z 0,I Z 0,I Z 0,I Z 0,I Z 0,I Z 0,I Z 0,I Z 0,I Z 0,I Z 0] _ _ rfl
 have FB:Hid (Below w.heap.size w (w.alloc (.cells #[I Z 0,I Z 0,I Z 0,I Z 0,I Z 0,I Z 0,I Z 0,I Z 0,I Z 0,I Z 0,I Z 0,I Z 0] 31))):=(Below.refl _ _).alloc (Nat.le_refl _) _
 have x0:(w.alloc (.cells #[I Z 0,I Z 0,I Z 0,I Z 0,I Z 0,I Z 0,I Z 0,I Z 0,I Z 0,I Z 0,I Z 0,I Z 0] 31)).cell? ⟨tb,0,none⟩=_:=(FB.out.cell (p:=⟨tb,0,none⟩) l0).trans x0
 have y:∀ k v,(hRow h)[k]? = some v→(w.alloc (.cells #[I Z 0,I Z 0,I Z 0,I Z 0,I Z 0,I Z 0,I Z 0,I Z 0,I Z 0,I Z 0,I Z 0,I Z 0] 31)).cell? ⟨gb,k,none⟩=some v:=fun k v hv=>(FB.out.cell (p:=⟨gb,k,none⟩) l1).trans (y k v hv)
 obtain ⟨W0,hW0⟩:∃ W0,W0=(w.alloc (.cells #[I Z 0,I Z 0,I Z 0,I Z 0,I Z 0,I Z 0,I Z 0,I Z 0,I Z 0,I Z 0,I Z 0,I Z 0] 31)):=⟨_,rfl⟩
 rw [← hW0] at F0 FB x0 y
 have HW0:=zH hW0
 clear hW0
 have y0:=y 0 _ rfl
 have y1:=y 1 _ rfl
 have y2:=y 2 _ rfl
 have y3:=y 3 _ rfl
 have y4:=y 4 _ rfl
 have y5:=y 5 _ rfl
 have y6:=y 6 _ rfl
 have y7:=y 7 _ rfl
 have y8:=y 8 _ rfl
 have y9:=y 9 _ rfl
 have y10:=y 10 _ rfl
 have y11:=y 11 _ rfl
 clear y l0 l1
 go_enter Tryz.func92,Tryz.ntmps92
 go_upto_region 1 with fail
 rw [← HW0.out]
 clear HW0
 go_wp2_with (refine store_blk (hRow h) 31 _ _ (by kernel_rfl) (by kernel_rfl) (by kernel_rfl) F0.out rfl rfl rfl rfl ?_)
 exact bodyPost_ret (v:=hv h) ((F0.out.row (hRow h)).res _ Tryz.results92 Tryz.underlying31 (by kernel_rfl) rfl) rfl ⟨rfl,below_row FB.out (Nat.le_refl _) _⟩
end Go.Proofs.YteimojoicfjdjaaGreat
