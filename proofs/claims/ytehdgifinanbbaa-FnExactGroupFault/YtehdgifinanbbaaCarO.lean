/-
  cmp.Or over two numbers: the first that is not 0.
-/
import Derived.Test.YtehdgifinanbbaaRes
namespace Go.Proofs.Ytehdgifinanbbaa
open Go.RowKit Pl

set_option maxHeartbeats 1000000 in
theorem or_first (x y : Int) (hx : x ≠ 0) (b : Nat) (w : World) (c0 : w.cell? ⟨b, 0, none⟩ = some (.int .i64 x)) (_c1 : w.cell? ⟨b, 1, none⟩ = some (.int .i64 y)) :
    Calls Try.prog 53 #[.slice (some ⟨b, 0, none⟩) 2 2] w fun e w' => e = .returned (.int .i64 x) ∧ w' = w := by
  have hn : (x != 0) = true := by simpa using hx
  clear hx
  go_enter Try.func53, Try.ntmps53
  go_wp2
  go_loop [8] (fun i => i = .int .i64 0) (fun i => (2 - intOf i).toNat)
  case atStart => exact rfl
  case round =>
    subst hrel
    go_wp2
    go_ret
    exact ⟨rfl, rfl⟩
set_option maxHeartbeats 1000000 in
theorem or_second (x y : Int) (hx : x = 0) (b : Nat) (w : World) (c0 : w.cell? ⟨b, 0, none⟩ = some (.int .i64 x)) (_c1 : w.cell? ⟨b, 1, none⟩ = some (.int .i64 y)) :
    Calls Try.prog 53 #[.slice (some ⟨b, 0, none⟩) 2 2] w fun e w' => e = .returned (.int .i64 y) ∧ w' = w := by
  subst hx
  go_enter Try.func53, Try.ntmps53
  go_wp2
  go_loop [8] (fun i => i = .int .i64 0 ∨ i = .int .i64 1 ∨ (i = .int .i64 2 ∧ y = 0)) (fun i => (2 - intOf i).toNat)
  case atStart => exact Or.inl rfl
  case round =>
    rcases hrel with h | h | ⟨h, hy⟩
    · subst h
      go_wp2
      go_round
      case rel => exact Or.inr (Or.inl rfl)
      case measure => simp [intOf]
    · subst h
      by_cases hy : y = 0
      · subst hy
        go_wp2
        go_round
        case rel => exact Or.inr (Or.inr ⟨rfl, trivial⟩)
        case measure => simp [intOf]
      · have hn : (y != 0) = true := by simpa using hy
        clear hy
        go_wp2
        go_ret
        exact ⟨rfl, rfl⟩
    · subst h
      subst hy
      go_wp2
      go_ret
      exact ⟨rfl, rfl⟩
end Go.Proofs.Ytehdgifinanbbaa
