/- Parts of the proof: SxX. -/
import Derived.Test.YteimojoicfjdjaaGreatZ2
import Derived.Test.YteimojoicfjdjaaGreatZ12
import Derived.Test.YteimojoicfjdjaaGreatZ13
import Derived.Test.YteimojoicfjdjaaGreatProg
import Derived.KernelRfl
namespace Go.Proofs.YteimojoicfjdjaaGreat
open Value renaming int → I
open IntKind renaming i64 → Z
open Go.RowKit Pl Sx
set_option linter.unusedVariables false
theorem mo:Tryz.prog.follows .mixedOrders=true:=by kernel_rfl
structure Kd(α:Type) where
 p:Value→Option α
 v:α→Value
 e:∀ x a,p x=some a→x=v a
def kI:Kd Int:=⟨fun x=>match x with | I Z n=>some n | _=>none,fun n=>I Z n,fun x a h=>by
 split at h
 ·simp only [Option.some.injEq] at h;rw [h]
 ·cases h⟩
def kU:Kd Int:=⟨fun x=>match x with | .int .u64 n=>some n | _=>none,fun n=>.int .u64 n,fun x a h=>by
 split at h
 ·simp only [Option.some.injEq] at h;rw [h]
 ·cases h⟩
def kB:Kd Bool:=⟨fun x=>match x with | .bool n=>some n | _=>none,fun n=>.bool n,fun x a h=>by
 split at h
 ·simp only [Option.some.injEq] at h;rw [h]
 ·cases h⟩
abbrev hv(x:Hs):Value:=.agg #[I Z x.fl,I Z x.gp,I Z x.ln,I Z x.rf,I Z x.sp,I Z x.pu,I Z x.br,I Z x.dr,I Z x.lv,I Z x.dO,I Z x.ld,I Z x.qu]
def pH:Value→Option Hs
 | .agg c=>match c.toList with
  | [I Z a,I Z b,I Z c,I Z d,I Z e,I Z f,I Z g,I Z h,I Z i,I Z j,I Z k,I Z l]=>some ⟨a,b,c,d,e,f,g,h,i,j,k,l⟩
  | _=>none
 | _=>none
def kH:Kd Hs:=⟨pH,hv,fun x a h=>by
 unfold pH at h
 split at h
 ·rename_i c
  split at h
  ·rename_i e
   simp only [Option.some.injEq] at h
   subst h
   exact congrArg Value.agg (Array.ext' e)
  ·cases h
 ·cases h⟩
abbrev cv(x:Cs):Value:=.agg #[I Z x.pos,I Z x.vel,I Z x.door]
def pC:Value→Option Cs
 | .agg c=>match c.toList with
  | [I Z a,I Z b,I Z c]=>some ⟨a,b,c⟩
  | _=>none
 | _=>none
def kC:Kd Cs:=⟨pC,cv,fun x a h=>by
 unfold pC at h
 split at h
 ·rename_i c
  split at h
  ·rename_i e
   simp only [Option.some.injEq] at h
   subst h
   exact congrArg Value.agg (Array.ext' e)
  ·cases h
 ·cases h⟩
abbrev sv(x:Sh):Value:=.agg #[I Z x.lo.pos,I Z x.lo.vel,I Z x.lo.door,I Z x.up.pos,I Z x.up.vel,I Z x.up.door]
def pS:Value→Option Sh
 | .agg c=>match c.toList with
  | [I Z a,I Z b,I Z c,I Z d,I Z e,I Z f]=>some ⟨⟨a,b,c⟩,⟨d,e,f⟩⟩
  | _=>none
 | _=>none
def kS:Kd Sh:=⟨pS,sv,fun x a h=>by
 unfold pS at h
 split at h
 ·rename_i c
  split at h
  ·rename_i e
   simp only [Option.some.injEq] at h
   subst h
   exact congrArg Value.agg (Array.ext' e)
  ·cases h
 ·cases h⟩
abbrev xv(x:Cm):Value:=.agg #[I Z x.push,.bool x.brk,.bool x.opn]
def pX:Value→Option Cm
 | .agg c=>match c.toList with
  | [I Z a,.bool b,.bool c]=>some ⟨a,b,c⟩
  | _=>none
 | _=>none
def kX:Kd Cm:=⟨pX,xv,fun x a h=>by
 unfold pX at h
 split at h
 ·rename_i c
  split at h
  ·rename_i e
   simp only [Option.some.injEq] at h
   subst h
   exact congrArg Value.agg (Array.ext' e)
  ·cases h
 ·cases h⟩
def e1{P:Program}{α:Type}(a:Kd α)(g:Nat)(pre:α→Option Prop)(r:α→Value)
  (ok:∀ (x0:α),(∀ q,pre x0=some q→q)→∀ w,Calls P g #[a.v x0] w fun e w'=>e=.returned (r x0)∧Below w.heap.size w w'):Ent P:=
 mkE g (fun l=>match l with
  | [u0]=>match a.p u0 with
   | some x0=>some (pre x0,r x0)
   | _=>none
  | _=>none)
  (fun l p v h hp w=>by
  split at h
  ·rename_i u0
   split at h
   ·rename_i x0 hx0
    simp only [Option.some.injEq,Prod.mk.injEq] at h
    obtain ⟨rfl,rfl⟩:=h
    rw [a.e _ _ hx0]
    exact ok x0 hp w
   ·cases h
  ·cases h)
def e2{P:Program}{α β:Type}(a:Kd α)(b:Kd β)(g:Nat)(pre:α→β→Option Prop)(r:α→β→Value)
  (ok:∀ (x0:α) (x1:β),(∀ q,pre x0 x1=some q→q)→∀ w,Calls P g #[a.v x0,b.v x1] w fun e w'=>e=.returned (r x0 x1)∧Below w.heap.size w w'):Ent P:=
 mkE g (fun l=>match l with
  | [u0,u1]=>match a.p u0,b.p u1 with
   | some x0,some x1=>some (pre x0 x1,r x0 x1)
   | _,_=>none
  | _=>none)
  (fun l p v h hp w=>by
  split at h
  ·rename_i u0 u1
   split at h
   ·rename_i x0 x1 hx0 hx1
    simp only [Option.some.injEq,Prod.mk.injEq] at h
    obtain ⟨rfl,rfl⟩:=h
    rw [a.e _ _ hx0,b.e _ _ hx1]
    exact ok x0 x1 hp w
   ·cases h
  ·cases h)
def e3{P:Program}{α β γ:Type}(a:Kd α)(b:Kd β)(c:Kd γ)(g:Nat)(pre:α→β→γ→Option Prop)(r:α→β→γ→Value)
  (ok:∀ (x0:α) (x1:β) (x2:γ),(∀ q,pre x0 x1 x2=some q→q)→∀ w,Calls P g #[a.v x0,b.v x1,c.v x2] w fun e w'=>e=.returned (r x0 x1 x2)∧Below w.heap.size w w'):Ent P:=
 mkE g (fun l=>match l with
  | [u0,u1,u2]=>match a.p u0,b.p u1,c.p u2 with
   | some x0,some x1,some x2=>some (pre x0 x1 x2,r x0 x1 x2)
   | _,_,_=>none
  | _=>none)
  (fun l p v h hp w=>by
  split at h
  ·rename_i u0 u1 u2
   split at h
   ·rename_i x0 x1 x2 hx0 hx1 hx2
    simp only [Option.some.injEq,Prod.mk.injEq] at h
    obtain ⟨rfl,rfl⟩:=h
    rw [a.e _ _ hx0,b.e _ _ hx1,c.e _ _ hx2]
    exact ok x0 x1 x2 hp w
   ·cases h
  ·cases h)
def e4{P:Program}{α β γ δ:Type}(a:Kd α)(b:Kd β)(c:Kd γ)(d:Kd δ)(g:Nat)(pre:α→β→γ→δ→Option Prop)(r:α→β→γ→δ→Value)
  (ok:∀ (x0:α) (x1:β) (x2:γ) (x3:δ),(∀ q,pre x0 x1 x2 x3=some q→q)→∀ w,Calls P g #[a.v x0,b.v x1,c.v x2,d.v x3] w fun e w'=>e=.returned (r x0 x1 x2 x3)∧Below w.heap.size w w'):Ent P:=
 mkE g (fun l=>match l with
  | [u0,u1,u2,u3]=>match a.p u0,b.p u1,c.p u2,d.p u3 with
   | some x0,some x1,some x2,some x3=>some (pre x0 x1 x2 x3,r x0 x1 x2 x3)
   | _,_,_,_=>none
  | _=>none)
  (fun l p v h hp w=>by
  split at h
  ·rename_i u0 u1 u2 u3
   split at h
   ·rename_i x0 x1 x2 x3 hx0 hx1 hx2 hx3
    simp only [Option.some.injEq,Prod.mk.injEq] at h
    obtain ⟨rfl,rfl⟩:=h
    rw [a.e _ _ hx0,b.e _ _ hx1,c.e _ _ hx2,d.e _ _ hx3]
    exact ok x0 x1 x2 x3 hp w
   ·cases h
  ·cases h)
def e5{P:Program}{α β γ δ ε:Type}(a:Kd α)(b:Kd β)(c:Kd γ)(d:Kd δ)(e:Kd ε)(g:Nat)(pre:α→β→γ→δ→ε→Option Prop)(r:α→β→γ→δ→ε→Value)
  (ok:∀ (x0:α) (x1:β) (x2:γ) (x3:δ) (x4:ε),(∀ q,pre x0 x1 x2 x3 x4=some q→q)→∀ w,Calls P g #[a.v x0,b.v x1,c.v x2,d.v x3,e.v x4] w fun e w'=>e=.returned (r x0 x1 x2 x3 x4)∧Below w.heap.size w w'):Ent P:=
 mkE g (fun l=>match l with
  | [u0,u1,u2,u3,u4]=>match a.p u0,b.p u1,c.p u2,d.p u3,e.p u4 with
   | some x0,some x1,some x2,some x3,some x4=>some (pre x0 x1 x2 x3 x4,r x0 x1 x2 x3 x4)
   | _,_,_,_,_=>none
  | _=>none)
  (fun l p v h hp w=>by
  split at h
  ·rename_i u0 u1 u2 u3 u4
   split at h
   ·rename_i x0 x1 x2 x3 x4 hx0 hx1 hx2 hx3 hx4
    simp only [Option.some.injEq,Prod.mk.injEq] at h
    obtain ⟨rfl,rfl⟩:=h
    rw [a.e _ _ hx0,b.e _ _ hx1,c.e _ _ hx2,d.e _ _ hx3,e.e _ _ hx4]
    exact ok x0 x1 x2 x3 x4 hp w
   ·cases h
  ·cases h)
def e6{P:Program}{α β γ δ ε ζ:Type}(a:Kd α)(b:Kd β)(c:Kd γ)(d:Kd δ)(e:Kd ε)(f:Kd ζ)(g:Nat)(pre:α→β→γ→δ→ε→ζ→Option Prop)(r:α→β→γ→δ→ε→ζ→Value)
  (ok:∀ (x0:α) (x1:β) (x2:γ) (x3:δ) (x4:ε) (x5:ζ),(∀ q,pre x0 x1 x2 x3 x4 x5=some q→q)→∀ w,Calls P g #[a.v x0,b.v x1,c.v x2,d.v x3,e.v x4,f.v x5] w fun e w'=>e=.returned (r x0 x1 x2 x3 x4 x5)∧Below w.heap.size w w'):Ent P:=
 mkE g (fun l=>match l with
  | [u0,u1,u2,u3,u4,u5]=>match a.p u0,b.p u1,c.p u2,d.p u3,e.p u4,f.p u5 with
   | some x0,some x1,some x2,some x3,some x4,some x5=>some (pre x0 x1 x2 x3 x4 x5,r x0 x1 x2 x3 x4 x5)
   | _,_,_,_,_,_=>none
  | _=>none)
  (fun l p v h hp w=>by
  split at h
  ·rename_i u0 u1 u2 u3 u4 u5
   split at h
   ·rename_i x0 x1 x2 x3 x4 x5 hx0 hx1 hx2 hx3 hx4 hx5
    simp only [Option.some.injEq,Prod.mk.injEq] at h
    obtain ⟨rfl,rfl⟩:=h
    rw [a.e _ _ hx0,b.e _ _ hx1,c.e _ _ hx2,d.e _ _ hx3,e.e _ _ hx4,f.e _ _ hx5]
    exact ok x0 x1 x2 x3 x4 x5 hp w
   ·cases h
  ·cases h)
theorem if_b{b:Bool}{A B:Prop}(h1:b=true→A)(h2:b=false→B):cond b A B:=by
 cases b
 ·exact h2 rfl
 ·exact h1 rfl
theorem bw{P:Program}{f:Nat}{a:Array Value}{w:World}{v:Value}(h:Calls P f a w fun e w'=>e=.returned v∧w'=w):Calls P f a w fun e w'=>e=.returned v∧Below w.heap.size w w':=
 h.mono fun e w' ⟨he,hw⟩=>⟨he,hw ▸ Below.refl _ _⟩
theorem w64{x:Int}(h1:-9223372036854775808≤x)(h2:x≤9223372036854775807):IntKind.i64.wrap x=x:=IntWalk.i64_in _ ⟨h1,h2⟩
def IsI(x y:Int):Prop:=(I Z x:Value)=I Z y
def IsB(x y:Bool):Prop:=(.bool x:Value)=.bool y
theorem iI{x y:Int}(h:x=y):IsI x y:=congrArg (Value.int .i64) h
theorem iB{x y:Bool}(h:x=y):IsB x y:=congrArg Value.bool h
theorem inB_no{n l h:Int}:inB n l h=false ↔ (n < l ∨ h < n):=by
 rw [← Bool.not_eq_true,inB_iff];omega
end Go.Proofs.YteimojoicfjdjaaGreat
