/-
  Books: a step, as the program keeps them.
-/
import Derived.Test.YtgdhbkgpjeedhaaEnD
import Derived.Test.YtgdhbkgpjeedhaaCarN
import Derived.Test.YtgdhbkgpjeedhaaCarS
import Derived.Deep.DeepCutAuto
import Derived.Laws.EntriesVeiled
namespace Go.Proofs.Ytgdhbkgpjeedhaa
open Go.RowKit Pl
set_option linter.unusedSimpArgs false
set_option linter.unusedVariables false

theorem leaves_void {P : Program} {fn : Func} {R : Ending → World → Prop} (hr : ∀ t t', results fn t = results fn t') {t t' : Array Value} : ∀ (ds : List Deferred) (u : FrameMode) (w : World), Leaves P fn t R ds u w → Leaves P fn t' R ds u w
  | [], .returning, _, h => by
    obtain ⟨v, h1, h2⟩ := h
    exact ⟨v, by rw [hr t' t]; exact h1, h2⟩
  | [], .panicking _, _, h => h
  | [], .run, _, h => h.elim
  | d :: ds, u, w, h => by
    obtain ⟨h1, fv, cap, f, args, h2, h3, h4⟩ := h
    refine ⟨h1, fv, cap, f, args, h2, h3, h4.mono ?_⟩
    intro e u' w' q
    cases e with
    | returned v => exact leaves_void hr ds _ _ q
    | panicked c => exact leaves_void hr ds _ _ q
    | outgrown => exact q
end Go.Proofs.Ytgdhbkgpjeedhaa
