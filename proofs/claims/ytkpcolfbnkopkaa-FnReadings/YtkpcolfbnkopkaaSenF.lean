/-
  Sensors: a reading out of 32 bits (the model).
-/
import Derived.Test.YtkpcolfbnkopkaaSenE
namespace Go.Proofs.Ytkpcolfbnkopkaa
open Go.RowKit Pl
set_option linter.unusedSimpArgs false
set_option linter.unusedVariables false
def unP (x : Int) : Int := if 524287 < x / 4096 then wrap64 (x / 4096 - 1048576) else x / 4096
def unQ (x : Int) : Int := if 511 < bits BinOp.and IntKind.i64 (x / 4) 1023 then wrap64 (bits BinOp.and IntKind.i64 (x / 4) 1023 - 1024) else bits BinOp.and IntKind.i64 (x / 4) 1023
def unK (x : Int) : Int := if inB x 0 4294967295 = true then (if packV (unP x) (unQ x) = x then 0 else 1) else 3
def unA (x : Int) : Int := if unK x = 0 then unP x else 0
def unB (x : Int) : Int := if unK x = 0 then unQ x else 0
end Go.Proofs.Ytkpcolfbnkopkaa
