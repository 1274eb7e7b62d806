/- Parts of the proof: Base. -/
import Derived.Test.YteimojoicfjdjaaGreatZ1
import Derived.Test.YteimojoicfjdjaaGreatZ3
import Derived.Test.YteimojoicfjdjaaGreatProg
import Derived.WalkKit
import Derived.WalkLawsBesides
import Derived.Laws.Bits64
import Derived.Handy
import Derived.Laws.Externs
namespace Go.Proofs.YteimojoicfjdjaaGreat
open Go.RowKit Pl
theorem ret_int{k:IntKind}{a b:Int}(h:a=b):Ending.returned (.int k a)=.returned (.int k b):=by rw [h]
theorem sizeOf_any(n:Int)(h1:-9223372036854775808≤n)(h2:n≤9223372036854775807)(w:World) :
  Calls Tryz.prog 207 #[.int .i64 n] w fun e w'=>e=.returned (.int .u64 (sz n))∧w'=w:=by
 by_cases h:n < 0
 ·go_enter Tryz.func207,Tryz.ntmps207
  go_wp2
  go_ret
  exact ⟨ret_int (by rw [sz_neg h];simp only [IntKind.wrap_u64];omega),rfl⟩
 ·go_enter Tryz.func207,Tryz.ntmps207
  go_wp2
  go_ret
  exact ⟨ret_int (by rw [sz_pos (by omega)]),rfl⟩
theorem sideOf_any(n:Int)(w:World) :
  Calls Tryz.prog 209 #[.int .i64 n] w fun e w'=>e=.returned (.int .i64 (sd n))∧w'=w:=by
 by_cases h:n < 0
 ·go_enter Tryz.func209,Tryz.ntmps209
  go_wp2
  go_ret
  exact ⟨ret_int (by rw [sd_neg h]),rfl⟩
 ·go_enter Tryz.func209,Tryz.ntmps209
  go_wp2
  go_ret
  exact ⟨ret_int (by rw [sd_pos (by omega)]),rfl⟩
theorem toppedOf_any(hi lo side:Int)(h1:0≤lo)(h2:lo≤18446744073709551615)(hs:side=0 ∨ side=1)(w:World) :
  Calls Tryz.prog 208 #[.int .u64 hi,.int .u64 lo,.int .i64 side] w fun e w'=>e=.returned (.int .i64 (topped hi lo side))∧w'=w:=by
 by_cases h:hi=0
 ·subst h
  by_cases hl:1000000000000000 < lo
  all_goals
   rcases hs with rfl | rfl
   all_goals
    go_enter Tryz.func208,Tryz.ntmps208
    go_wp2
    go_ret
    exact ⟨ret_int (by unfold topped;(repeat' split) <;> first | omega | (simp only [IntKind.wrap_i64,IntKind.wrap_u64,wrap64];omega)),rfl⟩
 ·have hb:(hi != 0)=true:=by simpa using h
  rcases hs with rfl | rfl
  all_goals
   go_enter Tryz.func208,Tryz.ntmps208
   go_wp2
   go_ret
   exact ⟨ret_int (by unfold topped;simp [h]),rfl⟩
end Go.Proofs.YteimojoicfjdjaaGreat
