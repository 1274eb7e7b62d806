/- Parts of the proof: Plain. -/
namespace Go.Proofs.YteimojoicfjdjaaGreat.Pl
def sz(n:Int):Int:=if n < 0 then -n else n
def sd(n:Int):Int:=if n < 0 then 1 else 0
def clip(m v:Int):Int:=if v < -m then -m else if m < v then m else v
def topped(hi lo side:Int):Int:=if hi ≠ 0 ∨ 1000000000000000 < lo then (if side=1 then -1000000000000000 else 1000000000000000) else (if side=1 then -lo else lo)
def inB(n low high:Int):Bool:=decide (low≤n∧n≤high)
theorem inB_yes{n low high:Int}(h1:low≤n)(h2:n≤high):inB n low high=true:=decide_eq_true ⟨h1,h2⟩
theorem inB_no{n low high:Int}(h:n < low ∨ high < n):inB n low high=false:=decide_eq_false (by omega)
theorem inB_iff{n low high:Int}:inB n low high=true ↔ low≤n∧n≤high:=by unfold inB;simp
theorem sz_neg{n:Int}(h:n < 0):sz n=-n:=by unfold sz;rw [if_pos h]
theorem sz_pos{n:Int}(h:¬ n < 0):sz n=n:=by unfold sz;rw [if_neg h]
theorem sd_neg{n:Int}(h:n < 0):sd n=1:=by unfold sd;rw [if_pos h]
theorem sd_pos{n:Int}(h:¬ n < 0):sd n=0:=by unfold sd;rw [if_neg h]
theorem sd_01(n:Int):sd n=0 ∨ sd n=1:=by unfold sd;split <;> omega
theorem sz_nonneg(n:Int):0≤sz n:=by unfold sz;split <;> omega
end Go.Proofs.YteimojoicfjdjaaGreat.Pl
