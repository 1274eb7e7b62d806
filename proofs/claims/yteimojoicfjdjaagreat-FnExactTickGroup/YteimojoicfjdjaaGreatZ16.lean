/- Parts of the proof: XPl, StopsP, Guard, Span, Blk, Grp, GrpB, CarT, CellsN, CellsS, CellsG, SpanT. -/
import Derived.Test.YteimojoicfjdjaaGreatZ1
import Derived.Test.YteimojoicfjdjaaGreatZ2
import Derived.Test.YteimojoicfjdjaaGreatZ4
import Derived.Test.YteimojoicfjdjaaGreatZ6
import Derived.Test.YteimojoicfjdjaaGreatZ13
import Derived.Deep.QuietTactic
import Derived.BigQuiet
import Derived.Deep.Draws
import Derived.Deep.RegionHeld3
import Derived.KernelRfl
import Derived.Deep.RegionWith
import Derived.BigGuardPart
import Derived.Laws.Tables
import Derived.Laws.Rows
import Derived.Deep.WholeRow
import Derived.OwnWalk
import Derived.Laws.OwnMore
namespace Go.Proofs.YteimojoicfjdjaaGreat
open Pl
def brk(v b:Int):Int:=if v < 0 then (if v + b < 0 then v + b else 0) else (if 0 < v - b then v - b else 0)
def stepC(h:Hs)(c:Cs)(x:Cm)(d:Int):Cs:=
 if c.door ≠ 0 ∨ (x.opn=true∧c.vel=0) then (if x.opn=true then ⟨c.pos,c.vel,min h.dO (c.door + 1)⟩ else ⟨c.pos,c.vel,c.door - 1⟩)
 else if x.brk=true ∨ x.opn=true then ⟨c.pos + brk c.vel h.br,brk c.vel h.br,c.door⟩
 else ⟨c.pos + clip h.sp (c.vel + x.push + d),clip h.sp (c.vel + x.push + d),c.door⟩
theorem clip_bd(m v:Int)(m0:0≤m):-m≤clip m v∧clip m v≤m:=by unfold clip;(repeat' split) <;> omega
theorem brk_in(v b m:Int)(v1:-m≤v)(v2:v≤m)(b1:1≤b):-m≤brk v b∧brk v b≤m:=by unfold brk;(repeat' split) <;> omega
theorem cmd_push{h:Hs}{x:Cm}(hf:h.fault=0)(e:h.cmd x=0):-h.pu≤x.push∧x.push≤h.pu:=by
 rw [Hs.cmd_ok hf] at e
 unfold Hs.cmdC at e
 cases hi:inB x.push (-h.pu) h.pu with
 | true=>exact inB_iff.1 hi
 | false=>rw [hi] at e;simp at e
theorem car_env{h:Hs}{c:Cs}(k:CarOk h c):-9000000≤h.lo c.pos c.vel∧h.lo c.pos c.vel≤c.pos∧c.pos≤h.hi c.pos c.vel∧h.hi c.pos c.vel≤9000000∧-5000000≤c.pos∧c.pos≤5000000∧-500≤c.vel∧c.vel≤500:=by
 have o:=k.ok
 have en:=o.ends;have s2:=o.sp2;have b1:=o.pu1;have b2:=o.br1
 have p1:=k.p1;have p2:=k.p2;have v1:=k.v1;have v2:=k.v2
 unfold Hs.lo Hs.hi
 by_cases c1:0 < c.vel
 ·obtain ⟨s3,s4⟩:=stop_small c.vel h.br (by omega) (by omega) (by omega)
  rw [if_neg (by omega),if_pos c1];omega
 ·by_cases c2:c.vel < 0
  ·obtain ⟨s3,s4⟩:=stop_small (-c.vel) h.br (by omega) (by omega) (by omega)
   rw [if_pos c2,if_neg c1];omega
  ·rw [if_neg c2,if_neg c1];omega
def Hs.near(h:Hs)(c:Cs)(f:Int):Bool:=decide (absI (c.pos - h.level f)≤h.lv)
def cl(n lo hi:Int):Int:=max lo (min n hi)
def orI(x y:Int):Int:=if x=0 then y else x
theorem Pl.Hs.Ok.all{h:Hs}(o:h.Ok):((2≤h.fl∧h.fl≤12)∧(1≤h.gp∧h.gp≤20000)∧(1≤h.rf∧h.rf≤20000)∧(1≤h.ln∧h.ln≤20000)∧1≤h.sp∧h.sp≤500) ∧
  ((1≤h.pu∧h.pu≤h.sp)∧(h.pu≤h.br∧h.br≤500)∧(0≤h.dr∧h.dr≤h.pu - 1)∧(0≤h.lv∧h.lv≤50)∧(1≤h.dO∧h.dO≤20)∧(1≤h.ld∧h.ld≤20)∧1≤h.qu∧h.qu≤40) ∧
  (-4100000≤h.low∧h.low≤h.high∧h.high≤4300000)∧(0≤stopP h.sp h.br∧stopP h.sp h.br≤4000000)∧(1≤h.room∧h.room≤4001000)∧0≤(h.fl - 1) * h.gp∧(h.fl - 1) * h.gp≤220000:=
 ⟨⟨⟨o.fl1,o.fl2⟩,⟨o.gp1,o.gp2⟩,⟨o.rf1,o.rf2⟩,⟨o.ln1,o.ln2⟩,o.sp1,o.sp2⟩,⟨⟨o.pu1,o.pu2⟩,⟨o.br1,o.br2⟩,⟨o.dr1,o.dr2⟩,⟨o.lv1,o.lv2⟩,⟨o.do1,o.do2⟩,⟨o.ld1,o.ld2⟩,o.qu1,o.qu2⟩,o.ends,o.stop_bd,o.room_bd,o.top_bd⟩
theorem Pl.CarOk.all{h:Hs}{c:Cs}(k:CarOk h c):(h.fault=0∧(h.low≤c.pos∧c.pos≤h.high)∧(-h.sp≤c.vel∧c.vel≤h.sp)∧(0≤c.door∧c.door≤h.dO)∧(c.door=0 ∨ c.vel=0)) ∧
  -9000000≤h.lo c.pos c.vel∧h.lo c.pos c.vel≤c.pos∧c.pos≤h.hi c.pos c.vel∧h.hi c.pos c.vel≤9000000∧-5000000≤c.pos∧c.pos≤5000000∧-500≤c.vel∧c.vel≤500:=
 ⟨⟨k.hf,⟨k.p1,k.p2⟩,⟨k.v1,k.v2⟩,⟨k.d1,k.d2⟩,k.dv⟩,car_env k⟩
end Go.Proofs.YteimojoicfjdjaaGreat
namespace Go.Proofs.YteimojoicfjdjaaGreat
open Go.RowKit Pl
def ticks(v b:Int):Int:=(v + b - 1) / b
theorem quot_shift(v b:Int)(hb:1≤b):v / b=(v - b) / b + 1:=by
 have h:=Int.add_mul_ediv_left (v - b) 1 (show b ≠ 0 by omega)
 rw [show v - b + b * 1=v by omega] at h
 exact h
theorem stopP_brk(v b:Int)(hv:0 < v)(hb:1≤b):stopP v b=brk v b + stopP (brk v b) b:=by
 by_cases h:0 < v - b
 ·have e:brk v b=v - b:=by unfold brk;rw [if_neg (by omega),if_pos h]
  rw [e]
  unfold stopP
  have hq:=quot_shift v b hb
  obtain ⟨n,hn⟩:∃ n,(v - b) / b=n:=⟨_,rfl⟩
  rw [hn] at hq ⊢
  rw [hq]
  have h1:(n + 1) * v=n * v + v:=by rw [Int.add_mul];omega
  have h2:n * (v - b)=n * v - b * n:=by rw [Int.mul_sub,Int.mul_comm n b]
  have h3:(n + 1) * (n + 1 + 1) / 2=n * (n + 1) / 2 + (n + 1):=by
   have:(n + 1) * (n + 1 + 1)=n * (n + 1) + 2 * (n + 1):=by rw [Int.mul_comm (n + 1) (n + 1 + 1),← Int.add_mul];congr 1;omega
   omega
  have h4:b * (n * (n + 1) / 2 + (n + 1))=b * (n * (n + 1) / 2) + b * n + b:=by rw [Int.mul_add,Int.mul_add b n 1];omega
  rw [h1,h2,h3,h4];omega
 ·have e:brk v b=0:=by unfold brk;rw [if_neg (by omega),if_neg h]
  rw [e]
  have e0:stopP 0 b=0:=by unfold stopP;simp
  rw [e0]
  by_cases hvb:v=b
  ·subst hvb
   have h1:v / v=1:=Int.ediv_self (by omega)
   unfold stopP;rw [h1];omega
  ·have h1:v / b=0:=Int.ediv_eq_zero_of_lt (by omega) (by omega)
   unfold stopP;rw [h1];simp
theorem stopP_zero(b:Int):stopP 0 b=0:=by unfold stopP;simp
theorem stopP_nonneg(v b:Int)(h0:0≤v)(hb:1≤b):0≤stopP v b:=by
 have h:=stop_le 0 v b (Int.le_refl 0) h0 hb
 rw [stopP_zero] at h
 exact h
theorem brk_nonneg(v b:Int)(hv:0 < v):0≤brk v b:=by unfold brk;(repeat' split) <;> omega
theorem brk_back(s b:Int)(h:0≤s)(hb:1≤b):brk (-s) b≤0:=by unfold brk;(repeat' split) <;> omega
def Hs.wh(h:Hs)(c:Cs)(x:Cm):Int:=h.hi (stepC h c x h.dr).pos (stepC h c x h.dr).vel
def Hs.wl(h:Hs)(c:Cs)(x:Cm):Int:=h.lo (stepC h c x (-h.dr)).pos (stepC h c x (-h.dr)).vel
def Hs.asked(h:Hs)(c:Cs)(x:Cm):Int:=if h.car c=0 then h.cmd x else h.car c
def Hs.may(h:Hs)(s:Sh)(a b:Cm):Bool:=decide (h.ln≤Hs.wl h s.up b - Hs.wh h s.lo a) && (decide (Hs.wh h s.up b≤h.high) && decide (h.low≤Hs.wl h s.lo a))
def Hs.pairK(h:Hs)(s:Sh)(a b:Cm):Int:=if h.shaft s=0 then (if h.cmd a=0 then h.cmd b else h.cmd a) else h.shaft s
def brkFor(c:Cs)(x:Cm):Cm:=if c.door ≠ 0 then x else ⟨0,true,false⟩
def Hs.grd(h:Hs)(s:Sh)(a b:Cm):Cm × Cm:=
 if Hs.may h s a b=true then (a,b) else if Hs.may h s (brkFor s.lo a) b=true then (brkFor s.lo a,b)
 else if Hs.may h s a (brkFor s.up b)=true then (a,brkFor s.up b) else (brkFor s.lo a,brkFor s.up b)
def Hs.stepS(h:Hs)(s:Sh)(a b:Cm)(d e:Int):Sh:=⟨stepC h s.lo (Hs.grd h s a b).1 d,stepC h s.up (Hs.grd h s a b).2 e⟩
def Hs.stepK(h:Hs)(s:Sh)(a b:Cm)(d e:Int):Int:=if Hs.pairK h s a b=0 then (if inB d (-h.dr) h.dr=true∧inB e (-h.dr) h.dr=true then 0 else 3) else Hs.pairK h s a b
def Hs.stepV(h:Hs)(s:Sh)(a b:Cm)(d e:Int):Sh:=if Hs.stepK h s a b d e=0 then Hs.stepS h s a b d e else ⟨⟨0,0,0⟩,⟨0,0,0⟩⟩
theorem Hs.hi_bd{h:Hs}(o:h.Ok)(p v:Int)(p1:-7000000≤p)(p2:p≤7000000)(v1:-500≤v)(v2:v≤500):-12000000≤h.hi p v∧h.hi p v≤12000000:=by
 have r1:=o.br1;have r3:=o.pu1
 unfold Hs.hi
 split
 ·have:=stop_small v h.br (by omega) (by omega) (by omega);omega
 ·omega
theorem Hs.lo_bd{h:Hs}(o:h.Ok)(p v:Int)(p1:-7000000≤p)(p2:p≤7000000)(v1:-500≤v)(v2:v≤500):-12000000≤h.lo p v∧h.lo p v≤12000000:=by
 have r1:=o.br1;have r3:=o.pu1
 unfold Hs.lo
 split
 ·have:=stop_small (-v) h.br (by omega) (by omega) (by omega);omega
 ·omega
theorem step_env{h:Hs}{c:Cs}{x:Cm}{d:Int}(k:CarOk h c):-7000000≤(stepC h c x d).pos∧(stepC h c x d).pos≤7000000∧-500≤(stepC h c x d).vel∧(stepC h c x d).vel≤500:=by
 have o:=k.ok
 have en:=car_env k
 have s1:=o.sp1;have s2:=o.sp2;have v1:=k.v1;have v2:=k.v2;have r1:=o.br1;have r3:=o.pu1
 have cb:=clip_bd h.sp (c.vel + x.push + d) (by omega)
 have bb:=brk_in c.vel h.br h.sp v1 v2 (by omega)
 unfold stepC
 split
 ·split <;> (dsimp only;omega)
 ·split <;> (dsimp only;omega)
theorem Hs.wh_bd{h:Hs}{c:Cs}(k:CarOk h c)(x:Cm):-12000000≤Hs.wh h c x∧Hs.wh h c x≤12000000:=by
 obtain ⟨a,b,u,v⟩:=step_env (x:=x) (d:=h.dr) k
 exact Hs.hi_bd k.ok _ _ a b u v
theorem Hs.wl_bd{h:Hs}{c:Cs}(k:CarOk h c)(x:Cm):-12000000≤Hs.wl h c x∧Hs.wl h c x≤12000000:=by
 obtain ⟨a,b,u,v⟩:=step_env (x:=x) (d:=-h.dr) k
 exact Hs.lo_bd k.ok _ _ a b u v
theorem wh_brake{h:Hs}{c:Cs}(k:CarOk h c)(x:Cm):Hs.wh h c (brkFor c x)≤h.hi c.pos c.vel:=by
 have o:=k.ok
 have r1:=o.br1;have r3:=o.pu1
 unfold Hs.wh brkFor
 by_cases dz:c.door ≠ 0
 ·rw [if_pos dz]
  unfold stepC
  rw [if_pos (Or.inl dz)]
  split <;> exact Int.le_refl _
 ·rw [if_neg dz]
  unfold stepC
  rw [if_neg (by simp;omega),if_pos (Or.inl rfl)]
  dsimp only
  unfold Hs.hi
  by_cases v:0 < c.vel
  ·have e:=stopP_brk c.vel h.br v (by omega)
   have z:=stopP_zero h.br
   have b0:=brk_nonneg c.vel h.br v
   rw [if_pos v]
   split
   ·omega
   ·have:brk c.vel h.br=0:=by omega
    rw [this,z] at e
    omega
  ·have b0:brk c.vel h.br≤0:=by have:=brk_back (-c.vel) h.br (by omega) (by omega);rwa [Int.neg_neg] at this
   rw [if_neg v,if_neg (by omega)]
   omega
theorem brk_flip(v b:Int)(hb:1≤b):brk v b=-(brk (-v) b):=by unfold brk;(repeat' split) <;> omega
theorem wl_brake{h:Hs}{c:Cs}(k:CarOk h c)(x:Cm):h.lo c.pos c.vel≤Hs.wl h c (brkFor c x):=by
 have o:=k.ok
 have r1:=o.br1;have r3:=o.pu1
 unfold Hs.wl brkFor
 by_cases dz:c.door ≠ 0
 ·rw [if_pos dz]
  unfold stepC
  rw [if_pos (Or.inl dz)]
  split <;> exact Int.le_refl _
 ·rw [if_neg dz]
  unfold stepC
  rw [if_neg (by simp;omega),if_pos (Or.inl rfl)]
  dsimp only
  unfold Hs.lo
  by_cases v:c.vel < 0
  ·have e:=stopP_brk (-c.vel) h.br (by omega) (by omega)
   have z:=stopP_zero h.br
   have b0:=brk_nonneg (-c.vel) h.br (by omega)
   have fl:=brk_flip c.vel h.br (by omega)
   rw [if_pos v,fl]
   split
   ·rw [Int.neg_neg];omega
   ·have:brk (-c.vel) h.br=0:=by omega
    rw [this,z] at e
    omega
  ·have b0:0≤brk c.vel h.br:=by have:=brk_back c.vel h.br (by omega) (by omega);have fl:=brk_flip c.vel h.br (by omega);omega
   rw [if_neg v,if_neg (by omega)]
   omega
theorem shaft_parts{h:Hs}{s:Sh}(e:h.shaft s=0):h.car s.lo=0∧h.car s.up=0∧h.ln≤h.lo s.up.pos s.up.vel - h.hi s.lo.pos s.lo.vel∧h.hi s.up.pos s.up.vel≤h.high∧h.low≤h.lo s.lo.pos s.lo.vel:=by
 unfold Hs.shaft at e
 by_cases k1:h.car s.lo=0
 ·rw [if_pos k1] at e
  by_cases k2:h.car s.up=0
  ·rw [if_pos k2] at e
   unfold Hs.shaftC at e
   refine ⟨k1,k2,?_⟩
   split at e
   ·omega
   ·split at e <;> omega
  ·rw [if_neg k2] at e;exact absurd e k2
 ·rw [if_neg k1] at e;exact absurd e k1
theorem may_brakes{h:Hs}{s:Sh}(e:h.shaft s=0)(a b:Cm):Hs.may h s (brkFor s.lo a) (brkFor s.up b)=true:=by
 obtain ⟨k1,k2,e1,e2,e3⟩:=shaft_parts e
 have a1:=wh_brake (Hs.car_zero k1) a
 have a2:=wl_brake (Hs.car_zero k1) a
 have b1:=wh_brake (Hs.car_zero k2) b
 have b2:=wl_brake (Hs.car_zero k2) b
 unfold Hs.may
 simp only [Bool.and_eq_true,decide_eq_true_eq]
 omega
theorem grd_may{h:Hs}{s:Sh}(e:h.shaft s=0)(a b:Cm):Hs.may h s (Hs.grd h s a b).1 (Hs.grd h s a b).2=true:=by
 unfold Hs.grd
 split
 ·assumption
 ·split
  ·assumption
  ·split
   ·assumption
   ·exact may_brakes e a b
end Go.Proofs.YteimojoicfjdjaaGreat
namespace Go.Proofs.YteimojoicfjdjaaGreat.Pl
structure Sp where
 lo:Int
 hi:Int
structure Ss where
 l:Sp
 u:Sp
end Go.Proofs.YteimojoicfjdjaaGreat.Pl
namespace Go.Proofs.YteimojoicfjdjaaGreat
open Go.RowKit Pl
def Hs.spanR(h:Hs)(x:Ss):Bool:=inB x.l.lo (-1) h.fl && (inB x.l.hi (-1) h.fl && (inB x.u.lo (-1) h.fl && inB x.u.hi (-1) h.fl))
def spanB(x:Ss):Bool:=decide (x.l.hi < x.l.lo) || (decide (x.u.hi < x.u.lo) || decide (x.u.lo≤x.l.hi))
def Hs.spanC(h:Hs)(x:Ss):Int:=if Hs.spanR h x=true then (if spanB x=true then 1 else 0) else 3
def Hs.spans(h:Hs)(x:Ss):Int:=if h.fault=0 then Hs.spanC h x else h.fault
def Hs.covLo(h:Hs)(low:Int):Nat→Int
 | 0=>-1
 | n + 1=>if h.level ((n:Int) - 1) - h.lv≤low then (n:Int) - 1 else Hs.covLo h low n
def Hs.covHi(h:Hs)(high:Int):Nat→Int
 | 0=>h.fl
 | n + 1=>if high≤h.level (h.fl - n) + h.lv then h.fl - n else Hs.covHi h high n
def Hs.cover(h:Hs)(c:Cs):Sp:=⟨Hs.covLo h (h.lo c.pos c.vel) (h.fl + 2).toNat,Hs.covHi h (h.hi c.pos c.vel) (h.fl + 2).toNat⟩
def Hs.nearF(h:Hs)(p:Int):Nat→Int
 | 0=>-1
 | n + 1=>if h.dist p n < h.dist p (Hs.nearF h p n) then n else Hs.nearF h p n
theorem Hs.nearF_near(h:Hs)(p:Int)(n:Nat):h.NearTo p n (Hs.nearF h p n):=by
 induction n with
 | zero=>exact Hs.NearTo.start h p
 | succ n ih=>
  unfold Hs.nearF
  by_cases e:h.dist p n < h.dist p (Hs.nearF h p n)
  ·rw [if_pos e];exact ih.take (by omega) e
  ·rw [if_neg e];exact ih.stay e
def Hs.at6(h:Hs)(p:Int):Int:=Hs.nearF h (max (h.level (-1)) (min (h.level h.fl) p)) (h.fl + 1).toNat
theorem Hs.at6_of{h:Hs}(o:h.Ok){p r:Int}(a:h.NearTo (max (h.level (-1)) (min (h.level h.fl) p)) (h.fl + 1) r):Hs.at6 h p=r:=by
 have f1:=o.fl1
 have e:(((h.fl + 1).toNat:Nat):Int)=h.fl + 1:=by omega
 have b:=Hs.nearF_near h (max (h.level (-1)) (min (h.level h.fl) p)) (h.fl + 1).toNat
 rw [e] at b
 exact b.one a
theorem nearF_bd(h:Hs)(p:Int)(n:Nat):-1≤Hs.nearF h p n∧Hs.nearF h p n≤(n:Int) - 1:=by
 induction n with
 | zero=>exact ⟨Int.le_refl _,by simp [Hs.nearF]⟩
 | succ n ih=>
  unfold Hs.nearF
  split <;> omega
theorem Hs.at6_bd{h:Hs}(o:h.Ok)(p:Int):-1≤Hs.at6 h p∧Hs.at6 h p≤h.fl:=by
 have f1:=o.fl1
 have:=nearF_bd h (max (h.level (-1)) (min (h.level h.fl) p)) (h.fl + 1).toNat
 unfold Hs.at6;omega
def Hs.sensA(h:Hs)(s:Sh):Int:=if h.fl < (if Hs.at6 h s.up.pos≤Hs.at6 h s.lo.pos then Hs.at6 h s.lo.pos + 1 else Hs.at6 h s.up.pos) then Hs.at6 h s.lo.pos - 1 else Hs.at6 h s.lo.pos
def Hs.sensB(h:Hs)(s:Sh):Int:=if h.fl < (if Hs.at6 h s.up.pos≤Hs.at6 h s.lo.pos then Hs.at6 h s.lo.pos + 1 else Hs.at6 h s.up.pos) then (if Hs.at6 h s.up.pos≤Hs.at6 h s.lo.pos then Hs.at6 h s.lo.pos + 1 else Hs.at6 h s.up.pos) - 1 else (if Hs.at6 h s.up.pos≤Hs.at6 h s.lo.pos then Hs.at6 h s.lo.pos + 1 else Hs.at6 h s.up.pos)
def Hs.sensed(h:Hs)(s:Sh):Ss:=⟨⟨Hs.sensA h s,Hs.sensA h s⟩,⟨Hs.sensB h s,Hs.sensB h s⟩⟩
def Hs.goals(h:Hs)(s:Sh)(lead goal other:Int):Int × Int:=
 if lead=0 then (goal,if other=-2 ∨ other≤goal then max (goal + 1) (Hs.at6 h s.up.pos) else other)
 else (if other=-2 ∨ goal≤other then min (goal - 1) (Hs.at6 h s.lo.pos) else other,goal)
def Hs.goalK(h:Hs)(s:Sh)(lead goal other:Int):Int:=
 if h.shaft s=0 then (if inB lead 0 1=true∧inB goal 0 (h.fl - 1)=true∧inB other (-2) h.fl=true then 0 else 3) else h.shaft s
def Hs.goalV(h:Hs)(s:Sh)(lead goal other:Int):Int × Int:=if Hs.goalK h s lead goal other=0 then Hs.goals h s lead goal other else (0,0)
theorem goals_order{h:Hs}{s:Sh}(o:h.Ok){lead goal other:Int}(g0:0≤goal)(g1:goal≤h.fl - 1)(r0:-2≤other)(r1:other≤h.fl) :
  (Hs.goals h s lead goal other).1 < (Hs.goals h s lead goal other).2∧-1≤(Hs.goals h s lead goal other).1∧(Hs.goals h s lead goal other).2≤h.fl:=by
 have a:=Hs.at6_bd o s.lo.pos
 have b:=Hs.at6_bd o s.up.pos
 unfold Hs.goals
 split
 ·dsimp only;split <;> omega
 ·dsimp only;split <;> omega
def extS(x:Ss)(a b:Int):Ss:=
 ⟨⟨min x.l.lo a,max x.l.hi (min a (x.u.lo - 1))⟩,⟨min x.u.lo (max b (max x.l.hi (min a (x.u.lo - 1)) + 1)),max x.u.hi b⟩⟩
def cutS(x y:Sp):Sp:=if min x.hi y.hi < max x.lo y.lo then x else ⟨max x.lo y.lo,min x.hi y.hi⟩
def Hs.relS(h:Hs)(x:Ss)(s:Sh):Ss:=⟨cutS x.l (Hs.cover h s.lo),cutS x.u (Hs.cover h s.up)⟩
def Hs.relK(h:Hs)(x:Ss)(s:Sh):Int:=if Hs.spans h x=0 then h.shaft s else Hs.spans h x
def aimS(x:Sp)(g:Int):Int:=max x.lo (min x.hi g)
set_option linter.unusedSimpArgs false
set_option linter.unusedVariables false
structure Blk(w:World)(b:Nat)(vs:List Value):Prop where
 o:∃ T,w.heap[b]? = some (.cells vs.toArray T (0,0))
theorem Blk.lt{w:World}{b:Nat}{vs:List Value}(a:Blk w b vs):b < w.heap.size:=by
 obtain ⟨T,h⟩:=a.o
 exact (Array.getElem?_eq_some_iff.1 h).1
theorem Blk.c{w:World}{b:Nat}{vs:List Value}(a:Blk w b vs)(k:Nat)(v:Value)(hv:vs[k]? = some v):w.cell? ⟨b,k,none⟩=some v:=by
 obtain ⟨T,h⟩:=a.o
 simp [World.cell?,h,hv]
theorem Blk.f{w:World}{b:Nat}{vs:List Value}(a:Blk w b vs)(k:Nat)(hk:k < vs.length):w.frozen? ⟨b,k,none⟩=false:=by
 obtain ⟨T,h⟩:=a.o
 simp [World.frozen?,h]
theorem Blk.of{W w:World}{b:Nat}{vs:List Value}(a:Blk W b vs)(h:w.heap[b]? = W.heap[b]?):Blk w b vs:=by
 obtain ⟨T,hT⟩:=a.o
 exact ⟨T,h.trans hT⟩
theorem Blk.below{W w:World}{b B:Nat}{vs:List Value}(a:Blk W b vs)(hb:Below B W w)(hB:b < B):Blk w b vs:=a.of (hb.block b hB)
theorem Blk.alloc{W:World}{b:Nat}{vs:List Value}(a:Blk W b vs)(o:Obj):Blk (W.alloc o) b vs:=a.of (Below.heap_alloc W o b a.lt)
theorem Blk.drew{W:World}{b:Nat}{vs:List Value}(a:Blk W b vs):Blk W.drew b vs:=a.of rfl
theorem Blk.other{W:World}{b k q:Nat}{u:Value}{vs:List Value}(a:Blk W b vs)(hne:b ≠ k):Blk (W.setCell ⟨k,q,none⟩ u) b vs:=a.of (Below.heap_setCell W _ u b hne)
theorem Blk.grown{W w:World}{b:Nat}{vs:List Value}{row:Option Nat}(a:Blk W b vs)(hg:W.grownBy w row)(hne:some b ≠ row):Blk w b vs:=a.of (hg.block b a.lt hne)
theorem Blk.at_(w:World)(cs:Array Value)(T:TypeId)(b:Nat)(hb:b=w.heap.size):Blk (w.alloc (.cells cs T)) b cs.toList:=by
 subst hb
 exact ⟨T,by rw [Array.toArray_toList];exact heap_alloc_new w _⟩
theorem Blk.set{W:World}{b k:Nat}{vs:List Value}(a:Blk W b vs)(u:Value)(_hk:k < vs.length):Blk (W.setCell ⟨b,k,none⟩ u) b (vs.set k u):=by
 obtain ⟨T,h⟩:=a.o
 refine ⟨T,?_⟩
 rw [heap_setCell_same W b k _ T u h]
 simp
theorem Blk.row{W:World}{b:Nat}{us:List Value}(a:Blk W b us)(vs:List Value):Blk (W.setRow b vs.toArray) b vs:=by
 obtain ⟨T,h⟩:=a.o
 exact ⟨T,setRow_heap W b _ _ T _ h⟩
theorem Blk.row_other{W:World}{b c:Nat}{us:List Value}(a:Blk W b us)(hne:b ≠ c)(vs:Array Value):Blk (W.setRow c vs) b us:=a.of (setRow_other W c b vs hne)
theorem below_row{B g:Nat}{w0 w:World}(hb:Below B w0 w)(hBg:B≤g)(cs:Array Value):Below B w0 (w.setRow g cs):=hb.trans ⟨rfl,rfl,rfl,by simp,fun k hk=>setRow_other w g k cs (by omega)⟩
theorem load_blk{ops:Array Oper}{rest:List Oper}{o:Oper}{act:Act}{w:World}{Q:Exit→Act→World→Prop}{b:Nat}{vs:List Value}(T:TypeId)(x:Operand){fs:Array Field}(hu:Tryz.prog.underlying T=some (.struct fs))(hi:(Tryz.prog.info? T).map (·.size)=some vs.toArray.size)(hB:Blk w b vs)
  (hgd:o.guard=none) (ho:o.op=.load T x) (hx:act.eval x=.pointer (some ⟨b,0,none⟩)) (h:wpList Tryz.prog ops Q rest (act.put o.dst (.agg vs.toArray)) w):wpList Tryz.prog ops Q (o :: rest) act w:=by
 obtain ⟨T',h'⟩:=hB.o
 exact wpList_load_row hgd T x ho b hx T' vs.toArray (0,0) (.struct fs) h' hu rfl hi h
theorem store_blk{ops:Array Oper}{rest:List Oper}{o:Oper}{act:Act}{w:World}{Q:Exit→Act→World→Prop}{b:Nat}{us:List Value}(vs:List Value)(T:TypeId)(x y:Operand)(hi:(Tryz.prog.info? T).map (·.size)=some vs.toArray.size)(hl:us.toArray.size=vs.toArray.size)(h1:vs.toArray.all (·.oneCell')=true)(hB:Blk w b us)
  (hgd:o.guard=none) (ho:o.op=.store T x y) (hx:act.eval x=.pointer (some ⟨b,0,none⟩)) (hy:act.eval y=.agg vs.toArray) (h:wpList Tryz.prog ops Q rest (act.put o.dst undef) (w.setRow b vs.toArray)):wpList Tryz.prog ops Q (o :: rest) act w:=by
 obtain ⟨T',h'⟩:=hB.o
 exact wpList_store_row hgd T x y ho b vs.toArray hx hy T' us.toArray h' hi hl h1 h
theorem store_new{ops:Array Oper}{rest:List Oper}{o:Oper}{act:Act}{w:World}{Q:Exit→Act→World→Prop}{us:Array Value}{T':TypeId}(vs:List Value)(T:TypeId)(x y:Operand)(hi:(Tryz.prog.info? T).map (·.size)=some vs.toArray.size)(hl:us.size=vs.toArray.size)(h1:vs.toArray.all (·.oneCell')=true)
  (hgd:o.guard=none) (ho:o.op=.store T x y) (hx:act.eval x=.pointer (some ⟨w.heap.size,0,none⟩)) (hy:act.eval y=.agg vs.toArray) (h:wpList Tryz.prog ops Q rest (act.put o.dst undef) (w.alloc (.cells vs.toArray T'))):wpList Tryz.prog ops Q (o :: rest) act (w.alloc (.cells us T')):=by
 refine wpList_store_row hgd T x y ho w.heap.size vs.toArray hx hy T' us (heap_alloc_last w _) hi hl h1 ?_
 rw [World.setRow_alloc_new]
 exact h
theorem Blk.res{fn:Func}{p:Tmp}{T:TypeId}{b:Nat}{vs:List Value}{w:World}{fs:Array Field}(hB:Blk w b vs)(tmps:Array Value)(h:fn.results=#[.cell p T])(hu:Tryz.prog.underlying T=some (.struct fs))(hi:(Tryz.prog.info? T).map (·.size)=some vs.toArray.size)(hp:tmps.getD p undef=.pointer (some ⟨b,0,none⟩)) :
  (results fn tmps).run Tryz.prog w=.ok (.agg vs.toArray) w:=by
 obtain ⟨T',h'⟩:=hB.o
 exact results_cell_row h tmps w b T' vs.toArray (0,0) (.struct fs) hp h' hu rfl hi
theorem exec_load_blk{o:Oper}{a:Act}{w:World}{b:Nat}{vs:List Value}(T:TypeId)(x:Operand){fs:Array Field}(hu:Tryz.prog.underlying T=some (.struct fs))(hi:(Tryz.prog.info? T).map (·.size)=some vs.toArray.size)
  (ho:o.op=.load T x) (hx:a.eval x=.pointer (some ⟨b,0,none⟩)) (hB:Blk w b vs):(execOp a.eval o).run Tryz.prog w=.ok (.value (.agg vs.toArray)) w:=by
 obtain ⟨T',h'⟩:=hB.o
 unfold execOp
 simp only [ho,hx,Instr.loadAt,Instr.sureAddr,Sem.run_bind,Sem.run_pure,Result.andThen_ok,run_loadVar_row w b T' T vs.toArray (0,0) (.struct fs) h' hu rfl hi]
def putB(W:World)(b:Nat):Nat→List Value→World
 | _,[]=>W
 | k,v :: vs=>putB (W.setCell ⟨b,k,none⟩ v) b (k + 1) vs
def setL:Nat→List Value→List Value→List Value
 | _,[],us=>us
 | k,v :: vs,us=>setL (k + 1) vs (us.set k v)
theorem setL_get:∀ (vs us:List Value) (k j:Nat),k + vs.length≤us.length→(setL k vs us)[j]? = if j < k then us[j]? else if j < k + vs.length then vs[j - k]? else us[j]?:=by
 intro vs
 induction vs with
 | nil=>
  intro us k j _
  show us[j]? = _
  split
  ·rfl
  ·rw [if_neg (by simp;omega)]
 | cons v vs ih=>
  intro us k j h
  simp only [List.length_cons] at h
  show (setL (k + 1) vs (us.set k v))[j]? = _
  rw [ih (us.set k v) (k + 1) j (by rw [List.length_set];omega)]
  simp only [List.length_cons]
  by_cases c1:j < k
  ·rw [if_pos (by omega),if_pos c1,List.getElem?_set_ne (by omega)]
  ·rw [if_neg c1]
   by_cases c2:j=k
   ·subst c2
    rw [if_pos (by omega),if_pos (by omega),List.getElem?_set_self (by omega),Nat.sub_self]
    rfl
   ·rw [if_neg (by omega)]
    by_cases c3:j < k + 1 + vs.length
    ·rw [if_pos c3,if_pos (by omega),show j - k=(j - (k + 1)) + 1 by omega]
     rfl
    ·rw [if_neg c3,if_neg (by omega),List.getElem?_set_ne (by omega)]
theorem setL_all(vs us:List Value)(h:vs.length=us.length):setL 0 vs us=vs:=by
 apply List.ext_getElem?
 intro j
 rw [setL_get vs us 0 j (by omega),if_neg (by omega)]
 split
 ·rfl
 ·rw [List.getElem?_eq_none (by omega),List.getElem?_eq_none (by omega)]
theorem putB_set{b:Nat}:∀ (vs us:List Value) (k:Nat) (W:World),Blk W b us→k + vs.length≤us.length→Blk (putB W b k vs) b (setL k vs us):=by
 intro vs
 induction vs with
 | nil=>intro us k W h _;exact h
 | cons v vs ih=>
  intro us k W h hk
  simp only [List.length_cons] at hk
  exact ih (us.set k v) (k + 1) _ (h.set v (by omega)) (by rw [List.length_set];omega)
theorem Blk.put{W:World}{b:Nat}{us:List Value}(a:Blk W b us)(vs:List Value)(h:vs.length=us.length):Blk (putB W b 0 vs) b vs:=by
 have:=putB_set vs us 0 W a (by omega)
 rwa [setL_all vs us h] at this
theorem below_putB{B:Nat}{w W:World}(h:Below B w W){b:Nat}(hb:B≤b):∀ (vs:List Value) (k:Nat),Below B w (putB W b k vs):=by
 intro vs
 induction vs generalizing W with
 | nil=>intro k;exact h
 | cons v vs ih=>intro k;exact ih (h.setCell hb _) (k + 1)
theorem Blk.putB_other{W:World}{b c:Nat}{us:List Value}(hne:b ≠ c):∀ (vs:List Value) (k:Nat),Blk W b us→Blk (putB W c k vs) b us:=by
 intro vs
 induction vs generalizing W with
 | nil=>intro k a;exact a
 | cons v vs ih=>intro k a;exact ih (k + 1) (a.other hne)
theorem Blk.c3{w:World}{b:Nat}{v0 v1 v2:Value}{vs:List Value}(a:Blk w b (v0 :: v1 :: v2 :: vs)):w.cell? ⟨b,0,none⟩=some v0∧w.cell? ⟨b,1,none⟩=some v1∧w.cell? ⟨b,2,none⟩=some v2:=
 ⟨a.c 0 _ rfl,a.c 1 _ rfl,a.c 2 _ rfl⟩
theorem Blk.c6{w:World}{b:Nat}{v0 v1 v2 v3 v4 v5:Value}{vs:List Value}(a:Blk w b (v0 :: v1 :: v2 :: v3 :: v4 :: v5 :: vs)):w.cell? ⟨b,0,none⟩=some v0∧w.cell? ⟨b,1,none⟩=some v1∧w.cell? ⟨b,2,none⟩=some v2∧w.cell? ⟨b,3,none⟩=some v3∧w.cell? ⟨b,4,none⟩=some v4∧w.cell? ⟨b,5,none⟩=some v5:=
 ⟨a.c 0 _ rfl,a.c 1 _ rfl,a.c 2 _ rfl,a.c 3 _ rfl,a.c 4 _ rfl,a.c 5 _ rfl⟩
theorem Blk.c7{w:World}{b:Nat}{v0 v1 v2 v3 v4 v5 v6:Value}{vs:List Value}(a:Blk w b (v0 :: v1 :: v2 :: v3 :: v4 :: v5 :: v6 :: vs)):w.cell? ⟨b,0,none⟩=some v0∧w.cell? ⟨b,1,none⟩=some v1∧w.cell? ⟨b,2,none⟩=some v2∧w.cell? ⟨b,3,none⟩=some v3∧w.cell? ⟨b,4,none⟩=some v4∧w.cell? ⟨b,5,none⟩=some v5∧w.cell? ⟨b,6,none⟩=some v6:=
 ⟨a.c 0 _ rfl,a.c 1 _ rfl,a.c 2 _ rfl,a.c 3 _ rfl,a.c 4 _ rfl,a.c 5 _ rfl,a.c 6 _ rfl⟩
theorem Blk.c12{w:World}{b:Nat}{v0 v1 v2 v3 v4 v5 v6 v7 v8 v9 v10 v11:Value}{vs:List Value}(a:Blk w b (v0 :: v1 :: v2 :: v3 :: v4 :: v5 :: v6 :: v7 :: v8 :: v9 :: v10 :: v11 :: vs)):w.cell? ⟨b,0,none⟩=some v0∧w.cell? ⟨b,1,none⟩=some v1∧w.cell? ⟨b,2,none⟩=some v2∧w.cell? ⟨b,3,none⟩=some v3∧w.cell? ⟨b,4,none⟩=some v4∧w.cell? ⟨b,5,none⟩=some v5∧w.cell? ⟨b,6,none⟩=some v6∧w.cell? ⟨b,7,none⟩=some v7∧w.cell? ⟨b,8,none⟩=some v8∧w.cell? ⟨b,9,none⟩=some v9∧w.cell? ⟨b,10,none⟩=some v10∧w.cell? ⟨b,11,none⟩=some v11:=
 ⟨a.c 0 _ rfl,a.c 1 _ rfl,a.c 2 _ rfl,a.c 3 _ rfl,a.c 4 _ rfl,a.c 5 _ rfl,a.c 6 _ rfl,a.c 7 _ rfl,a.c 8 _ rfl,a.c 9 _ rfl,a.c 10 _ rfl,a.c 11 _ rfl⟩
theorem Blk.c13{w:World}{b:Nat}{v0 v1 v2 v3 v4 v5 v6 v7 v8 v9 v10 v11 v12:Value}{vs:List Value}(a:Blk w b (v0 :: v1 :: v2 :: v3 :: v4 :: v5 :: v6 :: v7 :: v8 :: v9 :: v10 :: v11 :: v12 :: vs)):w.cell? ⟨b,0,none⟩=some v0∧w.cell? ⟨b,1,none⟩=some v1∧w.cell? ⟨b,2,none⟩=some v2∧w.cell? ⟨b,3,none⟩=some v3∧w.cell? ⟨b,4,none⟩=some v4∧w.cell? ⟨b,5,none⟩=some v5∧w.cell? ⟨b,6,none⟩=some v6∧w.cell? ⟨b,7,none⟩=some v7∧w.cell? ⟨b,8,none⟩=some v8∧w.cell? ⟨b,9,none⟩=some v9∧w.cell? ⟨b,10,none⟩=some v10∧w.cell? ⟨b,11,none⟩=some v11∧w.cell? ⟨b,12,none⟩=some v12:=
 ⟨a.c 0 _ rfl,a.c 1 _ rfl,a.c 2 _ rfl,a.c 3 _ rfl,a.c 4 _ rfl,a.c 5 _ rfl,a.c 6 _ rfl,a.c 7 _ rfl,a.c 8 _ rfl,a.c 9 _ rfl,a.c 10 _ rfl,a.c 11 _ rfl,a.c 12 _ rfl⟩
theorem Blk.c17{w:World}{b:Nat}{v0 v1 v2 v3 v4 v5 v6 v7 v8 v9 v10 v11 v12 v13 v14 v15 v16:Value}{vs:List Value}(a:Blk w b (v0 :: v1 :: v2 :: v3 :: v4 :: v5 :: v6 :: v7 :: v8 :: v9 :: v10 :: v11 :: v12 :: v13 :: v14 :: v15 :: v16 :: vs)):w.cell? ⟨b,0,none⟩=some v0∧w.cell? ⟨b,1,none⟩=some v1∧w.cell? ⟨b,2,none⟩=some v2∧w.cell? ⟨b,3,none⟩=some v3∧w.cell? ⟨b,4,none⟩=some v4∧w.cell? ⟨b,5,none⟩=some v5∧w.cell? ⟨b,6,none⟩=some v6∧w.cell? ⟨b,7,none⟩=some v7∧w.cell? ⟨b,8,none⟩=some v8∧w.cell? ⟨b,9,none⟩=some v9∧w.cell? ⟨b,10,none⟩=some v10∧w.cell? ⟨b,11,none⟩=some v11∧w.cell? ⟨b,12,none⟩=some v12∧w.cell? ⟨b,13,none⟩=some v13∧w.cell? ⟨b,14,none⟩=some v14∧w.cell? ⟨b,15,none⟩=some v15∧w.cell? ⟨b,16,none⟩=some v16:=
 ⟨a.c 0 _ rfl,a.c 1 _ rfl,a.c 2 _ rfl,a.c 3 _ rfl,a.c 4 _ rfl,a.c 5 _ rfl,a.c 6 _ rfl,a.c 7 _ rfl,a.c 8 _ rfl,a.c 9 _ rfl,a.c 10 _ rfl,a.c 11 _ rfl,a.c 12 _ rfl,a.c 13 _ rfl,a.c 14 _ rfl,a.c 15 _ rfl,a.c 16 _ rfl⟩
theorem Blk.c19{w:World}{b:Nat}{v0 v1 v2 v3 v4 v5 v6 v7 v8 v9 v10 v11 v12 v13 v14 v15 v16 v17 v18:Value}{vs:List Value}(a:Blk w b (v0 :: v1 :: v2 :: v3 :: v4 :: v5 :: v6 :: v7 :: v8 :: v9 :: v10 :: v11 :: v12 :: v13 :: v14 :: v15 :: v16 :: v17 :: v18 :: vs)):w.cell? ⟨b,0,none⟩=some v0∧w.cell? ⟨b,1,none⟩=some v1∧w.cell? ⟨b,2,none⟩=some v2∧w.cell? ⟨b,3,none⟩=some v3∧w.cell? ⟨b,4,none⟩=some v4∧w.cell? ⟨b,5,none⟩=some v5∧w.cell? ⟨b,6,none⟩=some v6∧w.cell? ⟨b,7,none⟩=some v7∧w.cell? ⟨b,8,none⟩=some v8∧w.cell? ⟨b,9,none⟩=some v9∧w.cell? ⟨b,10,none⟩=some v10∧w.cell? ⟨b,11,none⟩=some v11∧w.cell? ⟨b,12,none⟩=some v12∧w.cell? ⟨b,13,none⟩=some v13∧w.cell? ⟨b,14,none⟩=some v14∧w.cell? ⟨b,15,none⟩=some v15∧w.cell? ⟨b,16,none⟩=some v16∧w.cell? ⟨b,17,none⟩=some v17∧w.cell? ⟨b,18,none⟩=some v18:=
 ⟨a.c 0 _ rfl,a.c 1 _ rfl,a.c 2 _ rfl,a.c 3 _ rfl,a.c 4 _ rfl,a.c 5 _ rfl,a.c 6 _ rfl,a.c 7 _ rfl,a.c 8 _ rfl,a.c 9 _ rfl,a.c 10 _ rfl,a.c 11 _ rfl,a.c 12 _ rfl,a.c 13 _ rfl,a.c 14 _ rfl,a.c 15 _ rfl,a.c 16 _ rfl,a.c 17 _ rfl,a.c 18 _ rfl⟩
theorem bB{W w:World}{b:Nat}{vs:List Value}(F:Hid (Blk W b vs))(h:Below W.heap.size W w):Hid (Blk w b vs):=F.out.below h F.out.lt
end Go.Proofs.YteimojoicfjdjaaGreat
namespace Go.Proofs.YteimojoicfjdjaaGreat.Pl
structure Dk where
 sh:Sh
 sp:Ss
 pl:Int
 pu:Int
 hd:Bool
structure Gr where
 h:Hs
 ds:List Dk
 led:Lg
 tk:Int
 rc:Bool
end Go.Proofs.YteimojoicfjdjaaGreat.Pl
namespace Go.Proofs.YteimojoicfjdjaaGreat
open Value renaming int → I
open IntKind renaming i64 → Z
open Go.RowKit Pl
set_option linter.unusedSimpArgs false
set_option linter.unusedVariables false
def phB(d:Dk):Bool:=(d.sh.lo.door != 0 && d.pl == 0) || (d.sh.up.door != 0 && d.pu == 0)
def Hs.deck(h:Hs)(d:Dk):Int:=if h.shaft d.sh=0 then (if Hs.spans h d.sp=0 then (if inB d.pl 0 2=true∧inB d.pu 0 2=true then (if phB d=true then 1 else 0) else 3) else Hs.spans h d.sp) else h.shaft d.sh
def Hs.decks(h:Hs):List Dk→Int
 | []=>0
 | d :: l=>if Hs.deck h d=0 then Hs.decks h l else Hs.deck h d
def awayB(n:Nat)(l:List Pe):Bool:=l.any fun p=>decide ((n:Int)≤p.sh)
def Gr.faultC(g:Gr):Int:=if inB (g.ds.length:Int) 1 3=true then (if Hs.decks g.h g.ds=0 then (if Hs.led g.h g.led=0 then (if awayB g.ds.length g.led.ps=true then 1 else if inB g.tk 0 1000000000000000=true then 0 else 3) else Hs.led g.h g.led) else Hs.decks g.h g.ds) else 2
def Gr.fault(g:Gr):Int:=if g.h.fault=0 then Gr.faultC g else g.h.fault
theorem decks_step{h:Hs}{l:List Dk}{i:Nat}{d:Dk}(hd:l[i]? = some d)(ok:∀ j e,j < i→l[j]? = some e→Hs.deck h e=0):Hs.decks h l=(if Hs.deck h d=0 then Hs.decks h (l.drop (i + 1)) else Hs.deck h d):=by
 induction l generalizing i with
 | nil=>simp at hd
 | cons q l ih=>
  cases i with
  | zero=>
   simp at hd
   subst hd
   simp [Hs.decks]
  | succ i=>
   have h0:=ok 0 q (by omega) (by simp)
   show (if Hs.deck h q=0 then Hs.decks h l else _)=_
   rw [if_pos h0,ih (by simpa using hd) (fun j e hj he=>ok (j + 1) e (by omega) (by simpa using he))]
   simp
theorem decks_all{h:Hs}{l:List Dk}(ok:∀ (j:Nat) e,l[j]? = some e→Hs.deck h e=0):Hs.decks h l=0:=by
 induction l with
 | nil=>rfl
 | cons q l ih=>
  show (if Hs.deck h q=0 then Hs.decks h l else _)=_
  rw [if_pos (ok 0 q (by simp))]
  exact ih (fun j e he=>ok (j + 1) e (by simpa using he))
theorem decks_zero{h:Hs}{l:List Dk}(e:Hs.decks h l=0):∀ (j:Nat) d,l[j]? = some d→Hs.deck h d=0:=by
 induction l with
 | nil=>intro j d hd;simp at hd
 | cons q l ih=>
  have e':(if Hs.deck h q=0 then Hs.decks h l else Hs.deck h q)=0:=e
  intro j d hd
  split at e'
  case isFalse c=>exact absurd e' c
  case isTrue c=>
   cases j with
   | zero=>simp at hd;subst hd;exact c
   | succ j=>exact ih e' j d (by simpa using hd)
structure D13(w:World)(b o:Nat)(d:Dk):Prop where
 c0:w.cell? ⟨b,o,none⟩=some (I Z d.sh.lo.pos)
 c1:w.cell? ⟨b,o + 1,none⟩=some (I Z d.sh.lo.vel)
 c2:w.cell? ⟨b,o + 2,none⟩=some (I Z d.sh.lo.door)
 c3:w.cell? ⟨b,o + 3,none⟩=some (I Z d.sh.up.pos)
 c4:w.cell? ⟨b,o + 4,none⟩=some (I Z d.sh.up.vel)
 c5:w.cell? ⟨b,o + 5,none⟩=some (I Z d.sh.up.door)
 c6:w.cell? ⟨b,o + 6,none⟩=some (I Z d.sp.l.lo)
 c7:w.cell? ⟨b,o + 7,none⟩=some (I Z d.sp.l.hi)
 c8:w.cell? ⟨b,o + 8,none⟩=some (I Z d.sp.u.lo)
 c9:w.cell? ⟨b,o + 9,none⟩=some (I Z d.sp.u.hi)
 c10:w.cell? ⟨b,o + 10,none⟩=some (I Z d.pl)
 c11:w.cell? ⟨b,o + 11,none⟩=some (I Z d.pu)
 c12:w.cell? ⟨b,o + 12,none⟩=some (.bool d.hd)
theorem D13.lt{w:World}{b o:Nat}{d:Dk}(a:D13 w b o d):b < w.heap.size:=World.block_lt_of_cell? w _ a.c0
theorem D13.of{W w:World}{b o:Nat}{d:Dk}(a:D13 W b o d)(hc:∀ k,w.cell? ⟨b,k,none⟩=W.cell? ⟨b,k,none⟩):D13 w b o d:=
 ⟨(hc _).trans a.c0,(hc _).trans a.c1,(hc _).trans a.c2,(hc _).trans a.c3,(hc _).trans a.c4,(hc _).trans a.c5,(hc _).trans a.c6,(hc _).trans a.c7,(hc _).trans a.c8,(hc _).trans a.c9,(hc _).trans a.c10,(hc _).trans a.c11,(hc _).trans a.c12⟩
theorem D13.below{W w:World}{b o:Nat}{B:Nat}{d:Dk}(a:D13 W b o d)(hb:Below B W w)(hB:b < B):D13 w b o d:=a.of (fun k=>hb.cell (p:=⟨b,k,none⟩) hB)
theorem D13.alloc{W:World}{b o:Nat}{d:Dk}(a:D13 W b o d)(ob:Obj):D13 (W.alloc ob) b o d:=a.below ((Below.refl _ _).alloc (Nat.le_refl _) ob) a.lt
def DIn(w:World)(B:Nat)(a:Option Addr)(l:List Dk):Prop:=l = [] ∨ ∃ b o,a=some ⟨b,o,none⟩∧b < B∧∀ i d,l[i]? = some d→D13 w b (o + i * 13) d
theorem DIn.below{W w:World}{B C:Nat}{a:Option Addr}{l:List Dk}(h:DIn W B a l)(hb:Below C W w)(hB:B≤C):DIn w B a l:=by
 rcases h with h | ⟨b,o,e,hl,h⟩
 ·exact Or.inl h
 ·exact Or.inr ⟨b,o,e,hl,fun i d hd=>(h i d hd).below hb (by omega)⟩
theorem DIn.mono{w:World}{B C:Nat}{a:Option Addr}{l:List Dk}(h:DIn w B a l)(hC:B≤C):DIn w C a l:=by
 rcases h with h | ⟨b,o,e,hl,h⟩
 ·exact Or.inl h
 ·exact Or.inr ⟨b,o,e,by omega,h⟩
abbrev gvs(h:Hs)(dv:Value)(nx:Int)(pv:Value)(tk:Int)(rc:Bool):List Value:=[I Z h.fl,I Z h.gp,I Z h.ln,I Z h.rf,I Z h.sp,I Z h.pu,I Z h.br,I Z h.dr,I Z h.lv,I Z h.dO,I Z h.ld,I Z h.qu,dv,I Z nx,pv,I Z tk,.bool rc]
def zeroH:Hs:=⟨0,0,0,0,0,0,0,0,0,0,0,0⟩
set_option linter.unusedSimpArgs false
set_option linter.unusedVariables false
def cellsD(p:Dk):List Value:=[I Z p.sh.lo.pos,I Z p.sh.lo.vel,I Z p.sh.lo.door,I Z p.sh.up.pos,I Z p.sh.up.vel,I Z p.sh.up.door,I Z p.sp.l.lo,I Z p.sp.l.hi,I Z p.sp.u.lo,I Z p.sp.u.hi,I Z p.pl,I Z p.pu,.bool p.hd]
def flatD(l:List Dk):List Value:=l.flatMap cellsD
theorem flatD_cons(p:Dk)(l:List Dk):flatD (p :: l)=cellsD p ++ flatD l:=rfl
theorem flatD_append(l m:List Dk):flatD (l ++ m)=flatD l ++ flatD m:=by simp [flatD]
theorem flatD_length(l:List Dk):(flatD l).length=l.length * 13:=by
 induction l with
 | nil=>rfl
 | cons p l ih=>rw [flatD_cons,List.length_append,ih,List.length_cons];simp [cellsD];omega
theorem flatD_get{l:List Dk}{i:Nat}{p:Dk}(h:l[i]? = some p){k:Nat}(hk:k < 13):(flatD l)[i * 13 + k]? = (cellsD p)[k]?:=by
 induction l generalizing i with
 | nil=>simp at h
 | cons q l ih=>
  rw [flatD_cons]
  cases i with
  | zero=>
   simp at h
   subst h
   rw [List.getElem?_append_left (by simp [cellsD];omega)]
   simp
  | succ i=>
   rw [List.getElem?_append_right (by simp [cellsD];omega)]
   rw [show (i + 1) * 13 + k - (cellsD q).length=i * 13 + k by simp [cellsD];omega]
   exact ih (by simpa using h)
theorem flatD_one(l:List Dk):∀ u ∈ flatD l,u.oneCell'=true:=by
 intro u hu
 obtain ⟨p,_,hp⟩:=List.mem_flatMap.1 hu
 simp [cellsD] at hp
 rcases hp with rfl | rfl | rfl | rfl | rfl | rfl | rfl | rfl | rfl | rfl | rfl | rfl | rfl <;> rfl
theorem flatD_set(l:List Dk)(i k:Nat)(p q:Dk)(u:Value)(h:l[i]? = some p)(hk:k < 13)(e:(cellsD p).set k u=cellsD q):(flatD l).set (i * 13 + k) u=flatD (l.set i q):=by
 induction l generalizing i with
 | nil=>simp at h
 | cons r l ih=>
  cases i with
  | zero=>
   simp at h
   subst h
   rw [List.set_cons_zero,flatD_cons,flatD_cons,List.set_append_left _ _ (by simp [cellsD];omega)]
   simp [e]
  | succ i=>
   rw [List.set_cons_succ,flatD_cons,flatD_cons,List.set_append_right _ _ (by simp [cellsD];omega)]
   rw [show (i + 1) * 13 + k - (cellsD r).length=i * 13 + k by simp [cellsD];omega]
   rw [ih i (by simpa using h)]
def OwnD(w:World)(B:Nat)(v:Value)(l:List Dk):Prop:=w.ownsRow B 73 13 v l.length (flatD l)
theorem OwnD.below{W w:World}{B C:Nat}{v:Value}{l:List Dk}(h:OwnD W B v l)(hb:Below C W w)(hC:∀ k,v.ownBlock=some k→k < C):OwnD w B v l:=by
 refine ⟨h.1,?_⟩
 rcases h.2 with hn | ⟨g,cap,cur,rfl,hB,hg,rest⟩
 ·exact Or.inl hn
 ·exact Or.inr ⟨g,cap,cur,rfl,hB,(hb.block g (hC g rfl)).trans hg,rest⟩
theorem OwnD.lt{w:World}{B:Nat}{v:Value}{l:List Dk}(h:OwnD w B v l):∀ k,v.ownBlock=some k→B≤k∧k < w.heap.size:=World.ownsRow.lt h
theorem OwnD.alloc{w:World}{B:Nat}{v:Value}{l:List Dk}(h:OwnD w B v l)(o:Obj):OwnD (w.alloc o) B v l:=World.ownsRow.alloc h o
theorem OwnD.drew{w:World}{B:Nat}{v:Value}{l:List Dk}(h:OwnD w B v l):OwnD w.drew B v l:=h
theorem OwnD.kept{w w':World}{B:Nat}{v:Value}{l:List Dk}{row:Option Nat}(h:OwnD w B v l)(hg:w.grownBy w' row)(hne:v.ownBlock=none ∨ v.ownBlock ≠ row):OwnD w' B v l:=World.ownsRow.kept h hg hne
theorem OwnD.cases{w:World}{B:Nat}{v:Value}{l:List Dk}(h:OwnD w B v l) :
  (v=.slice none 0 0∧l = []) ∨ ∃ g cap,v=.slice (some ⟨g,0,none⟩) l.length cap∧B≤g∧g < w.heap.size∧l.length≤cap∧cap≤maxLen:=by
 rcases h.2 with ⟨e,hn⟩ | ⟨g,cap,cur,e,hB,hg,hc,hm,_⟩
 ·exact Or.inl ⟨e,List.eq_nil_of_length_eq_zero hn⟩
 ·exact Or.inr ⟨g,cap,e,hB,(Array.getElem?_eq_some_iff.1 hg).1,hc,hm⟩
def OwD(w:World)(B g n cap:Nat)(l:List Dk):Prop:=l.length=n∧w.ownsRow B 73 13 (.slice (some ⟨g,0,none⟩) n cap) n (flatD l)
theorem OwD.own{w:World}{B g n cap:Nat}{l:List Dk}(h:OwD w B g n cap l):OwnD w B (.slice (some ⟨g,0,none⟩) n cap) l:=by
 obtain ⟨rfl,h⟩:=h
 exact h
theorem OwnD.ow{w:World}{B g cap:Nat}{l:List Dk}(h:OwnD w B (.slice (some ⟨g,0,none⟩) l.length cap) l):OwD w B g l.length cap l:=⟨rfl,h⟩
theorem OwD.bl{w:World}{B g n cap:Nat}{l:List Dk}(h:OwD w B g n cap l):B≤g∧g < w.heap.size:=World.ownsRow.lt h.2 g rfl
theorem OwD.base{w:World}{B C g n cap:Nat}{l:List Dk}(h:OwD w B g n cap l)(hC:C≤B):OwD w C g n cap l:=by
 obtain ⟨e,h⟩:=h
 refine ⟨e,h.1,?_⟩
 rcases h.2 with hn | ⟨g',cap',cur,e',hB,rest⟩
 ·exact Or.inl hn
 ·exact Or.inr ⟨g',cap',cur,e',Nat.le_trans hC hB,rest⟩
theorem OwD.pin{w:World}{B g n cap C:Nat}{l:List Dk}(h:OwD w B g n cap l)(hC:g < C):DIn w C (some ⟨g,0,none⟩) l:=by
 refine Or.inr ⟨g,0,rfl,hC,fun i p hp=>?_⟩
 have hi:i < l.length:=(List.getElem?_eq_some_iff.1 hp).1
 have c:∀ k,k < 13→w.cell? ⟨g,i * 13 + k,none⟩=(cellsD p)[k]?:=fun k hk=>(World.ownsRow.cellAt h.2 (i * 13 + k) (by have:=h.1;omega)).trans (flatD_get hp hk)
 rw [Nat.zero_add]
 exact ⟨c 0 (by omega),c 1 (by omega),c 2 (by omega),c 3 (by omega),c 4 (by omega),c 5 (by omega),c 6 (by omega),c 7 (by omega),c 8 (by omega),c 9 (by omega),c 10 (by omega),c 11 (by omega),c 12 (by omega)⟩
theorem OwD.d13{w:World}{B g n cap:Nat}{l:List Dk}(h:OwD w B g n cap l){i:Nat}{p:Dk}(hp:l[i]? = some p):D13 w g (i * 13) p:=by
 have hi:i < l.length:=(List.getElem?_eq_some_iff.1 hp).1
 have c:∀ k,k < 13→w.cell? ⟨g,i * 13 + k,none⟩=(cellsD p)[k]?:=fun k hk=>(World.ownsRow.cellAt h.2 (i * 13 + k) (by have:=h.1;omega)).trans (flatD_get hp hk)
 exact ⟨c 0 (by omega),c 1 (by omega),c 2 (by omega),c 3 (by omega),c 4 (by omega),c 5 (by omega),c 6 (by omega),c 7 (by omega),c 8 (by omega),c 9 (by omega),c 10 (by omega),c 11 (by omega),c 12 (by omega)⟩
theorem OwD.fz{w:World}{B g n cap:Nat}{l:List Dk}(h:OwD w B g n cap l)(k:Nat):w.frozen? ⟨g,k,none⟩=false:=World.ownsRow.frozenAt h.2 k
theorem OwD.kept{w w':World}{B g n cap:Nat}{l:List Dk}{row:Option Nat}(h:OwD w B g n cap l)(hg:w.grownBy w' row)(hne:some g ≠ row):OwD w' B g n cap l:=⟨h.1,World.ownsRow.kept h.2 hg (Or.inr hne)⟩
theorem OwD.below{W w:World}{B C g n cap:Nat}{l:List Dk}(h:OwD W B g n cap l)(hb:Below C W w)(hC:g < C):OwD w B g n cap l:=by
 obtain ⟨e,h⟩:=h
 refine ⟨e,h.1,?_⟩
 rcases h.2 with hn | ⟨g',cap',cur,e',hB,hg,rest⟩
 ·exact Or.inl hn
 ·refine Or.inr ⟨g',cap',cur,e',hB,(hb.block g' ?_).trans hg,rest⟩
  simp at e'
  omega
theorem OwD.alloc{w:World}{B g n cap:Nat}{l:List Dk}(h:OwD w B g n cap l)(o:Obj):OwD (w.alloc o) B g n cap l:=⟨h.1,World.ownsRow.alloc h.2 o⟩
theorem OwD.other{w:World}{B g n cap:Nat}{l:List Dk}(h:OwD w B g n cap l){p:Addr}(hne:g ≠ p.block)(u:Value):OwD (w.setCell p u) B g n cap l:=by
 refine h.kept (row:=some p.block) ⟨rfl,rfl,rfl,by simp [World.setCell],fun i _ hne=>?_⟩ (by simpa using hne)
 exact Below.heap_setCell _ _ _ _ (fun e=>hne (by rw [e]))
theorem OwD.set{w:World}{B g n cap:Nat}{l:List Dk}(h:OwD w B g n cap l){i k:Nat}{p q:Dk}{u:Value}(hp:l[i]? = some p)(hk:k < 13)(e:(cellsD p).set k u=cellsD q) :
  OwD (w.setCell ⟨g,i * 13 + k,none⟩ u) B g n cap (l.set i q):=by
 have a:=(World.ownsRow.stored h.2 (i * 13 + k) u).1
 rw [flatD_set l i k p q u hp hk e] at a
 exact ⟨by rw [List.length_set];exact h.1,a⟩
theorem get_setD{l:List Dk}{i:Nat}{p q:Dk}(h:l[i]? = some p):(l.set i q)[i]? = some q:=by
 have hi:i < l.length:=(List.getElem?_eq_some_iff.1 h).1
 rw [List.getElem?_set_self hi]
def putD(W:World)(g o:Nat)(p:Dk):World:=(((((((((((((W.setCell ⟨g,o,none⟩ (I Z p.sh.lo.pos)).setCell ⟨g,o + 1,none⟩ (I Z p.sh.lo.vel)).setCell ⟨g,o + 2,none⟩ (I Z p.sh.lo.door)).setCell ⟨g,o + 3,none⟩ (I Z p.sh.up.pos)).setCell ⟨g,o + 4,none⟩ (I Z p.sh.up.vel)).setCell ⟨g,o + 5,none⟩ (I Z p.sh.up.door)).setCell ⟨g,o + 6,none⟩ (I Z p.sp.l.lo)).setCell ⟨g,o + 7,none⟩ (I Z p.sp.l.hi)).setCell ⟨g,o + 8,none⟩ (I Z p.sp.u.lo)).setCell ⟨g,o + 9,none⟩ (I Z p.sp.u.hi)).setCell ⟨g,o + 10,none⟩ (I Z p.pl)).setCell ⟨g,o + 11,none⟩ (I Z p.pu)).setCell ⟨g,o + 12,none⟩ (.bool p.hd))
theorem OwD.put{w:World}{B g n cap:Nat}{l:List Dk}(h:OwD w B g n cap l){i:Nat}{p:Dk}(q:Dk)(hp:l[i]? = some p):OwD (putD w g (i * 13) q) B g n cap (l.set i q):=by
 have s0:=h.set (k:=0) (u:=I Z q.sh.lo.pos) (q:=⟨⟨⟨q.sh.lo.pos,p.sh.lo.vel,p.sh.lo.door⟩,⟨p.sh.up.pos,p.sh.up.vel,p.sh.up.door⟩⟩,⟨⟨p.sp.l.lo,p.sp.l.hi⟩,⟨p.sp.u.lo,p.sp.u.hi⟩⟩,p.pl,p.pu,p.hd⟩) hp (by omega) rfl
 have s1:=s0.set (k:=1) (u:=I Z q.sh.lo.vel) (q:=⟨⟨⟨q.sh.lo.pos,q.sh.lo.vel,p.sh.lo.door⟩,⟨p.sh.up.pos,p.sh.up.vel,p.sh.up.door⟩⟩,⟨⟨p.sp.l.lo,p.sp.l.hi⟩,⟨p.sp.u.lo,p.sp.u.hi⟩⟩,p.pl,p.pu,p.hd⟩) (get_setD hp) (by omega) rfl
 have s2:=s1.set (k:=2) (u:=I Z q.sh.lo.door) (q:=⟨⟨⟨q.sh.lo.pos,q.sh.lo.vel,q.sh.lo.door⟩,⟨p.sh.up.pos,p.sh.up.vel,p.sh.up.door⟩⟩,⟨⟨p.sp.l.lo,p.sp.l.hi⟩,⟨p.sp.u.lo,p.sp.u.hi⟩⟩,p.pl,p.pu,p.hd⟩) (get_setD (get_setD hp)) (by omega) rfl
 have s3:=s2.set (k:=3) (u:=I Z q.sh.up.pos) (q:=⟨⟨⟨q.sh.lo.pos,q.sh.lo.vel,q.sh.lo.door⟩,⟨q.sh.up.pos,p.sh.up.vel,p.sh.up.door⟩⟩,⟨⟨p.sp.l.lo,p.sp.l.hi⟩,⟨p.sp.u.lo,p.sp.u.hi⟩⟩,p.pl,p.pu,p.hd⟩) (get_setD (get_setD (get_setD hp))) (by omega) rfl
 have s4:=s3.set (k:=4) (u:=I Z q.sh.up.vel) (q:=⟨⟨⟨q.sh.lo.pos,q.sh.lo.vel,q.sh.lo.door⟩,⟨q.sh.up.pos,q.sh.up.vel,p.sh.up.door⟩⟩,⟨⟨p.sp.l.lo,p.sp.l.hi⟩,⟨p.sp.u.lo,p.sp.u.hi⟩⟩,p.pl,p.pu,p.hd⟩) (get_setD (get_setD (get_setD (get_setD hp)))) (by omega) rfl
 have s5:=s4.set (k:=5) (u:=I Z q.sh.up.door) (q:=⟨⟨⟨q.sh.lo.pos,q.sh.lo.vel,q.sh.lo.door⟩,⟨q.sh.up.pos,q.sh.up.vel,q.sh.up.door⟩⟩,⟨⟨p.sp.l.lo,p.sp.l.hi⟩,⟨p.sp.u.lo,p.sp.u.hi⟩⟩,p.pl,p.pu,p.hd⟩) (get_setD (get_setD (get_setD (get_setD (get_setD hp))))) (by omega) rfl
 have s6:=s5.set (k:=6) (u:=I Z q.sp.l.lo) (q:=⟨⟨⟨q.sh.lo.pos,q.sh.lo.vel,q.sh.lo.door⟩,⟨q.sh.up.pos,q.sh.up.vel,q.sh.up.door⟩⟩,⟨⟨q.sp.l.lo,p.sp.l.hi⟩,⟨p.sp.u.lo,p.sp.u.hi⟩⟩,p.pl,p.pu,p.hd⟩) (get_setD (get_setD (get_setD (get_setD (get_setD (get_setD hp)))))) (by omega) rfl
 have s7:=s6.set (k:=7) (u:=I Z q.sp.l.hi) (q:=⟨⟨⟨q.sh.lo.pos,q.sh.lo.vel,q.sh.lo.door⟩,⟨q.sh.up.pos,q.sh.up.vel,q.sh.up.door⟩⟩,⟨⟨q.sp.l.lo,q.sp.l.hi⟩,⟨p.sp.u.lo,p.sp.u.hi⟩⟩,p.pl,p.pu,p.hd⟩) (get_setD (get_setD (get_setD (get_setD (get_setD (get_setD (get_setD hp))))))) (by omega) rfl
 have s8:=s7.set (k:=8) (u:=I Z q.sp.u.lo) (q:=⟨⟨⟨q.sh.lo.pos,q.sh.lo.vel,q.sh.lo.door⟩,⟨q.sh.up.pos,q.sh.up.vel,q.sh.up.door⟩⟩,⟨⟨q.sp.l.lo,q.sp.l.hi⟩,⟨q.sp.u.lo,p.sp.u.hi⟩⟩,p.pl,p.pu,p.hd⟩) (get_setD (get_setD (get_setD (get_setD (get_setD (get_setD (get_setD (get_setD hp)))))))) (by omega) rfl
 have s9:=s8.set (k:=9) (u:=I Z q.sp.u.hi) (q:=⟨⟨⟨q.sh.lo.pos,q.sh.lo.vel,q.sh.lo.door⟩,⟨q.sh.up.pos,q.sh.up.vel,q.sh.up.door⟩⟩,⟨⟨q.sp.l.lo,q.sp.l.hi⟩,⟨q.sp.u.lo,q.sp.u.hi⟩⟩,p.pl,p.pu,p.hd⟩) (get_setD (get_setD (get_setD (get_setD (get_setD (get_setD (get_setD (get_setD (get_setD hp))))))))) (by omega) rfl
 have s10:=s9.set (k:=10) (u:=I Z q.pl) (q:=⟨⟨⟨q.sh.lo.pos,q.sh.lo.vel,q.sh.lo.door⟩,⟨q.sh.up.pos,q.sh.up.vel,q.sh.up.door⟩⟩,⟨⟨q.sp.l.lo,q.sp.l.hi⟩,⟨q.sp.u.lo,q.sp.u.hi⟩⟩,q.pl,p.pu,p.hd⟩) (get_setD (get_setD (get_setD (get_setD (get_setD (get_setD (get_setD (get_setD (get_setD (get_setD hp)))))))))) (by omega) rfl
 have s11:=s10.set (k:=11) (u:=I Z q.pu) (q:=⟨⟨⟨q.sh.lo.pos,q.sh.lo.vel,q.sh.lo.door⟩,⟨q.sh.up.pos,q.sh.up.vel,q.sh.up.door⟩⟩,⟨⟨q.sp.l.lo,q.sp.l.hi⟩,⟨q.sp.u.lo,q.sp.u.hi⟩⟩,q.pl,q.pu,p.hd⟩) (get_setD (get_setD (get_setD (get_setD (get_setD (get_setD (get_setD (get_setD (get_setD (get_setD (get_setD hp))))))))))) (by omega) rfl
 have s12:=s11.set (k:=12) (u:=.bool q.hd) (q:=q) (get_setD (get_setD (get_setD (get_setD (get_setD (get_setD (get_setD (get_setD (get_setD (get_setD (get_setD (get_setD hp)))))))))))) (by omega) rfl
 simp only [List.set_set] at s12
 exact s12
theorem below_putD{B:Nat}{w W:World}(h:Below B w W){g:Nat}(hg:B≤g)(o:Nat)(p:Dk):Below B w (putD W g o p):=(((((((((((((h.setCell hg _).setCell hg _).setCell hg _).setCell hg _).setCell hg _).setCell hg _).setCell hg _).setCell hg _).setCell hg _).setCell hg _).setCell hg _).setCell hg _).setCell hg _)
theorem OwnD.pin{w:World}{B:Nat}{v:Value}{l:List Dk}(h:OwnD w B v l):∃ a cap,v=.slice a l.length cap∧DIn w w.heap.size a l:=by
 rcases h.cases with ⟨e,hl⟩ | ⟨g,cap,e,hB,hg,_⟩
 ·subst hl
  exact ⟨none,0,e,Or.inl rfl⟩
 ·subst e
  refine ⟨_,cap,rfl,Or.inr ⟨g,0,rfl,hg,fun i p hp=>?_⟩⟩
  rw [Nat.zero_add]
  exact h.ow.d13 hp
def zeroD:Dk:=⟨⟨⟨0,0,0⟩,⟨0,0,0⟩⟩,⟨⟨0,0⟩,⟨0,0⟩⟩,0,0,false⟩
theorem made_flatD(n:Nat):(madeCells (cellsD zeroD).toArray (n * 13)).toList=flatD (List.replicate n zeroD):=by
 apply List.ext_getElem?
 intro j
 by_cases hj:j < n * 13
 ·have e:j=j / 13 * 13 + j % 13:=by omega
  have h1:(List.replicate n zeroD)[j / 13]? = some zeroD:=by rw [List.getElem?_replicate,if_pos (by omega)]
  have h2:=flatD_get h1 (k:=j % 13) (Nat.mod_lt _ (by omega))
  rw [← e] at h2
  rw [h2]
  have h3:j % 13 < 13:=Nat.mod_lt _ (by omega)
  simp [madeCells,hj,cellsD]
  have:j % 13=0 ∨ j % 13=1 ∨ j % 13=2 ∨ j % 13=3 ∨ j % 13=4 ∨ j % 13=5 ∨ j % 13=6 ∨ j % 13=7 ∨ j % 13=8 ∨ j % 13=9 ∨ j % 13=10 ∨ j % 13=11 ∨ j % 13=12:=by omega
  rcases this with q | q | q | q | q | q | q | q | q | q | q | q | q <;> simp [q]
 ·have h1:(flatD (List.replicate n zeroD)).length≤j:=by rw [flatD_length,List.length_replicate];omega
  rw [List.getElem?_eq_none h1]
  simp [madeCells,hj]
theorem OwnD.base{w:World}{B C:Nat}{v:Value}{l:List Dk}(h:OwnD w B v l)(hC:C≤B):OwnD w C v l:=by
 refine ⟨h.1,?_⟩
 rcases h.2 with hn | ⟨g,cap,cur,e,hB,rest⟩
 ·exact Or.inl hn
 ·exact Or.inr ⟨g,cap,cur,e,Nat.le_trans hC hB,rest⟩
structure GO(w:World)(B gd gp:Nat)(ds:List Dk)(ps:List Pe):Prop where
 d:OwD w B gd ds.length ds.length ds
 p:Ow w B gp ps.length ps.length ps
 ne:gd ≠ gp
theorem GO.lt{w:World}{B gd gp:Nat}{ds:List Dk}{ps:List Pe}(h:GO w B gd gp ds ps):max gd gp < w.heap.size:=by
 have a:=h.d.bl.2;have b:=h.p.bl.2;omega
theorem GO.ge{w:World}{B gd gp:Nat}{ds:List Dk}{ps:List Pe}(h:GO w B gd gp ds ps):B≤gd∧B≤gp:=⟨h.d.bl.1,h.p.bl.1⟩
theorem GO.below{W w:World}{B C gd gp:Nat}{ds:List Dk}{ps:List Pe}(h:GO W B gd gp ds ps)(hb:Below C W w)(hC:max gd gp < C):GO w B gd gp ds ps:=⟨h.d.below hb (by omega),h.p.below hb (by omega),h.ne⟩
theorem GO.alloc{w:World}{B gd gp:Nat}{ds:List Dk}{ps:List Pe}(h:GO w B gd gp ds ps)(o:Obj):GO (w.alloc o) B gd gp ds ps:=⟨h.d.alloc o,h.p.alloc o,h.ne⟩
theorem GO.base{w:World}{B C gd gp:Nat}{ds:List Dk}{ps:List Pe}(h:GO w B gd gp ds ps)(hC:C≤B):GO w C gd gp ds ps:=⟨h.d.base hC,h.p.base hC,h.ne⟩
theorem GO.din{w:World}{B gd gp:Nat}{ds:List Dk}{ps:List Pe}(h:GO w B gd gp ds ps):DIn w w.heap.size (some ⟨gd,0,none⟩) ds:=h.d.pin h.d.bl.2
theorem GO.pin{w:World}{B gd gp:Nat}{ds:List Dk}{ps:List Pe}(h:GO w B gd gp ds ps):PIn w w.heap.size (some ⟨gp,0,none⟩) ps:=h.p.pin h.p.bl.2
end Go.Proofs.YteimojoicfjdjaaGreat
namespace Go.Proofs.YteimojoicfjdjaaGreat
set_option maxHeartbeats 2000000
open Value renaming int → I
open IntKind renaming i64 → Z
open Go.RowKit Pl
theorem toCar_any(c:Cs)(w:World) :
  Calls Tryz.prog 120 #[.agg #[I Z c.pos,I Z c.vel,I Z c.door]] w fun e w'=>e=.returned (.agg #[I Z c.pos,I Z c.vel,I Z c.door])∧Below w.heap.size w w':=by
 go_enter Tryz.func120,Tryz.ntmps120
 go_wp2
 exact bodyPost_ret (v:=.agg #[I Z c.pos,I Z c.vel,I Z c.door]) (by simp [results,Tryz.results120,go_sem]) rfl ⟨rfl,by repeat (first | exact Below.refl _ _ | (refine Below.alloc ?_ ?_ _) | (refine Below.setCell ?_ ?_ _) | (simp;omega) | simp)⟩
theorem eqCar_same(c:Cs)(w:World) :
  Calls Tryz.prog 154 #[.agg #[I Z c.pos,I Z c.vel,I Z c.door],.agg #[I Z c.pos,I Z c.vel,I Z c.door]] w fun e w'=>e=.returned (.bool true)∧Below w.heap.size w w':=by
 go_enter Tryz.func154,Tryz.ntmps154
 go_wp2
 go_ret
 exact ⟨rfl,by repeat (first | exact Below.refl _ _ | (refine Below.alloc ?_ ?_ _) | (simp;omega) | simp)⟩
theorem eqShaft_same(s:Sh)(w:World) :
  Calls Tryz.prog 96 #[.agg #[I Z s.lo.pos,I Z s.lo.vel,I Z s.lo.door,I Z s.up.pos,I Z s.up.vel,I Z s.up.door],.agg #[I Z s.lo.pos,I Z s.lo.vel,I Z s.lo.door,I Z s.up.pos,I Z s.up.vel,I Z s.up.door]] w fun e w'=>e=.returned (.bool true)∧Below w.heap.size w w':=by
 have F0:Hid (SW ((w.alloc (.cells #[I Z s.lo.pos,I Z s.lo.vel,I Z s.lo.door,I Z s.up.pos,I Z s.up.vel,I Z s.up.door] 67)).alloc (.cells #[I Z s.lo.pos,I Z s.lo.vel,I Z s.lo.door,I Z s.up.pos,I Z s.up.vel,I Z s.up.door] 67)) w.heap.size s):=(SW.at_ w s _ _ (by simp)).alloc _
 have F1:Hid (SW ((w.alloc (.cells #[I Z s.lo.pos,I Z s.lo.vel,I Z s.lo.door,I Z s.up.pos,I Z s.up.vel,I Z s.up.door] 67)).alloc (.cells #[I Z s.lo.pos,I Z s.lo.vel,I Z s.lo.door,I Z s.up.pos,I Z s.up.vel,I Z s.up.door] 67)) (w.heap.size + 1) s):=SW.at_ (w.alloc (.cells #[I Z s.lo.pos,I Z s.lo.vel,I Z s.lo.door,I Z s.up.pos,I Z s.up.vel,I Z s.up.door] 67)) s _ _ (by simp)
 have FB:Hid (Below w.heap.size w ((w.alloc (.cells #[I Z s.lo.pos,I Z s.lo.vel,I Z s.lo.door,I Z s.up.pos,I Z s.up.vel,I Z s.up.door] 67)).alloc (.cells #[I Z s.lo.pos,I Z s.lo.vel,I Z s.lo.door,I Z s.up.pos,I Z s.up.vel,I Z s.up.door] 67))):=(((Below.refl _ _).alloc (Nat.le_refl _) _).alloc (by simp <;> omega) _)
 go_enter Tryz.func96,Tryz.ntmps96
 go_wp2_with (go_at_call 154;refine (eqCar_same _ _).mono ?_;rintro e w1 ⟨rfl,hb⟩;have F0:=zH (F0.out.below hb F0.out.lt);have F1:=zH (F1.out.below hb F1.out.lt);have FB:=tB FB hb;obtain ⟨x0_0,x0_1,x0_2,x0_3,x0_4,x0_5,y0_0,y0_1,y0_2,y0_3,y0_4,y0_5⟩:=F0.out;obtain ⟨x1_0,x1_1,x1_2,x1_3,x1_4,x1_5,y1_0,y1_1,y1_2,y1_3,y1_4,y1_5⟩:=F1.out;clear hb)
 go_ret
 exact ⟨rfl,FB.out⟩
theorem toShaft_any(s:Sh)(w:World) :
  Calls Tryz.prog 73 #[.agg #[I Z s.lo.pos,I Z s.lo.vel,I Z s.lo.door,I Z s.up.pos,I Z s.up.vel,I Z s.up.door]] w fun e w'=>e=.returned (.agg #[I Z s.lo.pos,I Z s.lo.vel,I Z s.lo.door,I Z s.up.pos,I Z s.up.vel,I Z s.up.door])∧Below w.heap.size w w':=by
 have F0:Hid (SW (((w.alloc (.cells #[I Z s.lo.pos,I Z s.lo.vel,I Z s.lo.door,I Z s.up.pos,I Z s.up.vel,I Z s.up.door] 85)).alloc (.cells #[I Z 0,I Z 0,I Z 0,I Z 0,I Z 0,I Z 0] 67)).alloc (.cells #[I Z 0,I Z 0,I Z 0,I Z 0,I Z 0,I Z 0] 67)) w.heap.size s):=((SW.at_ w s _ _ (by simp)).alloc _).alloc _
 have F1:Hid (R6 (((w.alloc (.cells #[I Z s.lo.pos,I Z s.lo.vel,I Z s.lo.door,I Z s.up.pos,I Z s.up.vel,I Z s.up.door] 85)).alloc (.cells #[I Z 0,I Z 0,I Z 0,I Z 0,I Z 0,I Z 0] 67)).alloc (.cells #[I Z 0,I Z 0,I Z 0,I Z 0,I Z 0,I Z 0] 67)) (w.heap.size + 1)):=(R6.at_ (w.alloc (.cells #[I Z s.lo.pos,I Z s.lo.vel,I Z s.lo.door,I Z s.up.pos,I Z s.up.vel,I Z s.up.door] 85)) _ _ (by simp)).alloc _
 have F2:Hid (R6 (((w.alloc (.cells #[I Z s.lo.pos,I Z s.lo.vel,I Z s.lo.door,I Z s.up.pos,I Z s.up.vel,I Z s.up.door] 85)).alloc (.cells #[I Z 0,I Z 0,I Z 0,I Z 0,I Z 0,I Z 0] 67)).alloc (.cells #[I Z 0,I Z 0,I Z 0,I Z 0,I Z 0,I Z 0] 67)) (w.heap.size + 2)):=R6.at_ ((w.alloc (.cells #[I Z s.lo.pos,I Z s.lo.vel,I Z s.lo.door,I Z s.up.pos,I Z s.up.vel,I Z s.up.door] 85)).alloc (.cells #[I Z 0,I Z 0,I Z 0,I Z 0,I Z 0,I Z 0] 67)) _ _ (by simp)
 have FB:Hid (Below w.heap.size w (((w.alloc (.cells #[I Z s.lo.pos,I Z s.lo.vel,I Z s.lo.door,I Z s.up.pos,I Z s.up.vel,I Z s.up.door] 85)).alloc (.cells #[I Z 0,I Z 0,I Z 0,I Z 0,I Z 0,I Z 0] 67)).alloc (.cells #[I Z 0,I Z 0,I Z 0,I Z 0,I Z 0,I Z 0] 67))):=((((Below.refl _ _).alloc (Nat.le_refl _) _).alloc (by simp <;> omega) _).alloc (by simp <;> omega) _)
 go_enter Tryz.func73,Tryz.ntmps73
 go_wp2_with fail
 refine (toCar_any s.lo _).mono ?_
 rintro e w1 ⟨rfl,hb⟩
 have F0:=zH (F0.out.below hb F0.out.lt);have F1:=zH (F1.out.below hb F1.out.lt);have F2:=zH (F2.out.below hb F2.out.lt);have FB:=tB FB hb;obtain ⟨x0_0,x0_1,x0_2,x0_3,x0_4,x0_5,y0_0,y0_1,y0_2,y0_3,y0_4,y0_5⟩:=F0.out;obtain ⟨x1_0,x1_1,x1_2,x1_3,x1_4,x1_5,y1_0,y1_1,y1_2,y1_3,y1_4,y1_5⟩:=F1.out;obtain ⟨x2_0,x2_1,x2_2,x2_3,x2_4,x2_5,y2_0,y2_1,y2_2,y2_3,y2_4,y2_5⟩:=F2.out;clear hb
 have G0:Hid (SW (putLo w1 (w.heap.size + 2) s.lo) w.heap.size s):=F0.out.putLo (by omega) _
 have G1:Hid (R6 (putLo w1 (w.heap.size + 2) s.lo) (w.heap.size + 1)):=F1.out.putLo (by omega) _
 have G2:Hid (SW (putLo w1 (w.heap.size + 2) s.lo) (w.heap.size + 2) ⟨s.lo,⟨0,0,0⟩⟩):=F2.out.lo _
 have GB:Hid (Below w.heap.size w (putLo w1 (w.heap.size + 2) s.lo)):=below_putLo FB.out (by omega) _
 go_wp2_with fail
 change Calls _ _ _ (putLo w1 (w.heap.size + 2) s.lo) _
 refine (toCar_any s.up _).mono ?_
 rintro e w2 ⟨rfl,hb⟩
 clear x0_0 x0_1 x0_2 x0_3 x0_4 x0_5 y0_0 y0_1 y0_2 y0_3 y0_4 y0_5 x1_0 x1_1 x1_2 x1_3 x1_4 x1_5 y1_0 y1_1 y1_2 y1_3 y1_4 y1_5 x2_0 x2_1 x2_2 x2_3 x2_4 x2_5 y2_0 y2_1 y2_2 y2_3 y2_4 y2_5
 have F1:=zH (G1.out.below hb G1.out.lt)
 have F2:=zH (G2.out.below hb G2.out.lt)
 have FB:=zH (GB.out.trans (hb.mono GB.out.size))
 clear hb
 have H1:Hid (R6 (putUp w2 (w.heap.size + 2) s.up) (w.heap.size + 1)):=F1.out.putUp (by omega) _
 have HB:Hid (Below w.heap.size w (putUp w2 (w.heap.size + 2) s.up)):=below_putUp FB.out (by omega) _
 obtain ⟨x1_0,x1_1,x1_2,x1_3,x1_4,x1_5,y1_0,y1_1,y1_2,y1_3,y1_4,y1_5⟩:=F1.out
 obtain ⟨x2_0,x2_1,x2_2,x2_3,x2_4,x2_5,y2_0,y2_1,y2_2,y2_3,y2_4,y2_5⟩:=F2.out
 dsimp only at x2_0 x2_1 x2_2 x2_3 x2_4 x2_5
 go_wp2_with fail
 clear x1_0 x1_1 x1_2 x1_3 x1_4 x1_5 y1_0 y1_1 y1_2 y1_3 y1_4 y1_5 x2_0 x2_1 x2_2 x2_3 x2_4 x2_5 y2_0 y2_1 y2_2 y2_3 y2_4 y2_5
 change bodyPost _ _ _ _ _ (put6 (putUp w2 (w.heap.size + 2) s.up) (w.heap.size + 1) s)
 obtain ⟨Wf,hWf⟩:∃ Wf,put6 (putUp w2 (w.heap.size + 2) s.up) (w.heap.size + 1) s=Wf:=⟨_,rfl⟩
 have HRf:SW Wf (w.heap.size + 1) s:=hWf ▸ H1.out.put _
 have HBf:Below w.heap.size w Wf:=hWf ▸ below_put6 HB.out (by omega) _
 rw [hWf]
 clear hWf
 obtain ⟨d0,d1,d2,d3,d4,d5,e0,e1,e2,e3,e4,e5⟩:=HRf
 exact bodyPost_ret (v:=.agg #[I Z s.lo.pos,I Z s.lo.vel,I Z s.lo.door,I Z s.up.pos,I Z s.up.vel,I Z s.up.door]) (by simp [results,Tryz.results73,go_sem,d0,d1,d2,d3,d4,d5]) rfl ⟨rfl,HBf⟩
end Go.Proofs.YteimojoicfjdjaaGreat
namespace Go.Proofs.YteimojoicfjdjaaGreat
open Value renaming int → I
open IntKind renaming i64 → Z
open Go.RowKit Pl
structure MW(w:World)(b:Nat)(x:Sp):Prop where
 c0:w.cell? ⟨b,0,none⟩=some (I Z x.lo)
 c1:w.cell? ⟨b,1,none⟩=some (I Z x.hi)
 f0:w.frozen? ⟨b,0,none⟩=false
 f1:w.frozen? ⟨b,1,none⟩=false
theorem MW.lt{w:World}{b:Nat}{x:Sp}(a:MW w b x):b < w.heap.size:=World.block_lt_of_cell? w _ a.c0
theorem MW.at_(w:World)(x:Sp)(T:TypeId)(b:Nat)(hb:b=w.heap.size):MW (w.alloc (.cells #[I Z x.lo,I Z x.hi] T)) b x:=by
 subst hb
 constructor <;> simp
theorem MW.of{W w:World}{b:Nat}{x:Sp}(a:MW W b x)(hc:∀ o,w.cell? ⟨b,o,none⟩=W.cell? ⟨b,o,none⟩)(hf:∀ o,w.frozen? ⟨b,o,none⟩=W.frozen? ⟨b,o,none⟩):MW w b x:=
 ⟨(hc 0).trans a.c0,(hc 1).trans a.c1,(hf 0).trans a.f0,(hf 1).trans a.f1⟩
theorem MW.below{W w:World}{b B:Nat}{x:Sp}(a:MW W b x)(hb:Below B W w)(hB:b < B):MW w b x:=
 a.of (fun o=>hb.cell (p:=⟨b,o,none⟩) hB) (fun o=>hb.frozen (p:=⟨b,o,none⟩) hB)
theorem MW.alloc{W:World}{b:Nat}{x:Sp}(a:MW W b x)(o:Obj):MW (W.alloc o) b x:=a.below ((Below.refl _ _).alloc (Nat.le_refl _) o) a.lt
theorem MW.other{W:World}{b k o:Nat}{u:Value}{x:Sp}(a:MW W b x)(hne:b ≠ k):MW (W.setCell ⟨k,o,none⟩ u) b x:=
 a.of (fun _=>World.cell?_setCell_other _ _ _ _ (fun e=>hne (congrArg Addr.block e).symm)) (fun _=>World.frozen?_setCell _ _ _ _)
theorem MW.set0{W:World}{b:Nat}{x:Sp}(a:MW W b x)(y:Int):MW (W.setCell ⟨b,0,none⟩ (I Z y)) b (⟨y,x.hi⟩:Sp):=
 ⟨World.cell?_setCell_same _ _ _ a.c0,(World.cell?_setCell_other _ _ _ _ (by simp)).trans a.c1,(World.frozen?_setCell _ _ _ _).trans a.f0,(World.frozen?_setCell _ _ _ _).trans a.f1⟩
theorem MW.set1{W:World}{b:Nat}{x:Sp}(a:MW W b x)(y:Int):MW (W.setCell ⟨b,1,none⟩ (I Z y)) b (⟨x.lo,y⟩:Sp):=
 ⟨(World.cell?_setCell_other _ _ _ _ (by simp)).trans a.c0,World.cell?_setCell_same _ _ _ a.c1,(World.frozen?_setCell _ _ _ _).trans a.f0,(World.frozen?_setCell _ _ _ _).trans a.f1⟩
def putM(W:World)(b:Nat)(x:Sp):World:=((W.setCell ⟨b,0,none⟩ (I Z x.lo)).setCell ⟨b,1,none⟩ (I Z x.hi))
theorem MW.put{W:World}{b:Nat}{x:Sp}(a:MW W b x)(y:Sp):MW (putM W b y) b y:=((a.set0 y.lo).set1 y.hi)
theorem below_putM{B:Nat}{w W:World}(h:Below B w W){b:Nat}(hb:B≤b)(x:Sp):Below B w (putM W b x):=((h.setCell hb _).setCell hb _)
structure NW(w:World)(b:Nat)(x:Ss):Prop where
 c0:w.cell? ⟨b,0,none⟩=some (I Z x.l.lo)
 c1:w.cell? ⟨b,1,none⟩=some (I Z x.l.hi)
 c2:w.cell? ⟨b,2,none⟩=some (I Z x.u.lo)
 c3:w.cell? ⟨b,3,none⟩=some (I Z x.u.hi)
 f0:w.frozen? ⟨b,0,none⟩=false
 f1:w.frozen? ⟨b,1,none⟩=false
 f2:w.frozen? ⟨b,2,none⟩=false
 f3:w.frozen? ⟨b,3,none⟩=false
theorem NW.lt{w:World}{b:Nat}{x:Ss}(a:NW w b x):b < w.heap.size:=World.block_lt_of_cell? w _ a.c0
theorem NW.at_(w:World)(x:Ss)(T:TypeId)(b:Nat)(hb:b=w.heap.size):NW (w.alloc (.cells #[I Z x.l.lo,I Z x.l.hi,I Z x.u.lo,I Z x.u.hi] T)) b x:=by
 subst hb
 constructor <;> simp
theorem NW.of{W w:World}{b:Nat}{x:Ss}(a:NW W b x)(hc:∀ o,w.cell? ⟨b,o,none⟩=W.cell? ⟨b,o,none⟩)(hf:∀ o,w.frozen? ⟨b,o,none⟩=W.frozen? ⟨b,o,none⟩):NW w b x:=
 ⟨(hc 0).trans a.c0,(hc 1).trans a.c1,(hc 2).trans a.c2,(hc 3).trans a.c3,(hf 0).trans a.f0,(hf 1).trans a.f1,(hf 2).trans a.f2,(hf 3).trans a.f3⟩
theorem NW.below{W w:World}{b B:Nat}{x:Ss}(a:NW W b x)(hb:Below B W w)(hB:b < B):NW w b x:=
 a.of (fun o=>hb.cell (p:=⟨b,o,none⟩) hB) (fun o=>hb.frozen (p:=⟨b,o,none⟩) hB)
theorem NW.alloc{W:World}{b:Nat}{x:Ss}(a:NW W b x)(o:Obj):NW (W.alloc o) b x:=a.below ((Below.refl _ _).alloc (Nat.le_refl _) o) a.lt
theorem NW.drew{W:World}{b:Nat}{x:Ss}(a:NW W b x):NW W.drew b x:=a.below (Below.refl W.heap.size W).drew a.lt
theorem NW.other{W:World}{b k o:Nat}{u:Value}{x:Ss}(a:NW W b x)(hne:b ≠ k):NW (W.setCell ⟨k,o,none⟩ u) b x:=
 a.of (fun _=>World.cell?_setCell_other _ _ _ _ (fun e=>hne (congrArg Addr.block e).symm)) (fun _=>World.frozen?_setCell _ _ _ _)
theorem NW.set0{W:World}{b:Nat}{x:Ss}(a:NW W b x)(y:Int):NW (W.setCell ⟨b,0,none⟩ (I Z y)) b (⟨⟨y,x.l.hi⟩,⟨x.u.lo,x.u.hi⟩⟩:Ss):=
 ⟨World.cell?_setCell_same _ _ _ a.c0,(World.cell?_setCell_other _ _ _ _ (by simp)).trans a.c1,(World.cell?_setCell_other _ _ _ _ (by simp)).trans a.c2,(World.cell?_setCell_other _ _ _ _ (by simp)).trans a.c3,(World.frozen?_setCell _ _ _ _).trans a.f0,(World.frozen?_setCell _ _ _ _).trans a.f1,(World.frozen?_setCell _ _ _ _).trans a.f2,(World.frozen?_setCell _ _ _ _).trans a.f3⟩
theorem NW.set1{W:World}{b:Nat}{x:Ss}(a:NW W b x)(y:Int):NW (W.setCell ⟨b,1,none⟩ (I Z y)) b (⟨⟨x.l.lo,y⟩,⟨x.u.lo,x.u.hi⟩⟩:Ss):=
 ⟨(World.cell?_setCell_other _ _ _ _ (by simp)).trans a.c0,World.cell?_setCell_same _ _ _ a.c1,(World.cell?_setCell_other _ _ _ _ (by simp)).trans a.c2,(World.cell?_setCell_other _ _ _ _ (by simp)).trans a.c3,(World.frozen?_setCell _ _ _ _).trans a.f0,(World.frozen?_setCell _ _ _ _).trans a.f1,(World.frozen?_setCell _ _ _ _).trans a.f2,(World.frozen?_setCell _ _ _ _).trans a.f3⟩
theorem NW.set2{W:World}{b:Nat}{x:Ss}(a:NW W b x)(y:Int):NW (W.setCell ⟨b,2,none⟩ (I Z y)) b (⟨⟨x.l.lo,x.l.hi⟩,⟨y,x.u.hi⟩⟩:Ss):=
 ⟨(World.cell?_setCell_other _ _ _ _ (by simp)).trans a.c0,(World.cell?_setCell_other _ _ _ _ (by simp)).trans a.c1,World.cell?_setCell_same _ _ _ a.c2,(World.cell?_setCell_other _ _ _ _ (by simp)).trans a.c3,(World.frozen?_setCell _ _ _ _).trans a.f0,(World.frozen?_setCell _ _ _ _).trans a.f1,(World.frozen?_setCell _ _ _ _).trans a.f2,(World.frozen?_setCell _ _ _ _).trans a.f3⟩
theorem NW.set3{W:World}{b:Nat}{x:Ss}(a:NW W b x)(y:Int):NW (W.setCell ⟨b,3,none⟩ (I Z y)) b (⟨⟨x.l.lo,x.l.hi⟩,⟨x.u.lo,y⟩⟩:Ss):=
 ⟨(World.cell?_setCell_other _ _ _ _ (by simp)).trans a.c0,(World.cell?_setCell_other _ _ _ _ (by simp)).trans a.c1,(World.cell?_setCell_other _ _ _ _ (by simp)).trans a.c2,World.cell?_setCell_same _ _ _ a.c3,(World.frozen?_setCell _ _ _ _).trans a.f0,(World.frozen?_setCell _ _ _ _).trans a.f1,(World.frozen?_setCell _ _ _ _).trans a.f2,(World.frozen?_setCell _ _ _ _).trans a.f3⟩
def putN(W:World)(b:Nat)(x:Ss):World:=((((W.setCell ⟨b,0,none⟩ (I Z x.l.lo)).setCell ⟨b,1,none⟩ (I Z x.l.hi)).setCell ⟨b,2,none⟩ (I Z x.u.lo)).setCell ⟨b,3,none⟩ (I Z x.u.hi))
theorem NW.put{W:World}{b:Nat}{x:Ss}(a:NW W b x)(y:Ss):NW (putN W b y) b y:=((((a.set0 y.l.lo).set1 y.l.hi).set2 y.u.lo).set3 y.u.hi)
theorem below_putN{B:Nat}{w W:World}(h:Below B w W){b:Nat}(hb:B≤b)(x:Ss):Below B w (putN W b x):=((((h.setCell hb _).setCell hb _).setCell hb _).setCell hb _)
structure RSps(w:World)(b:Nat):Prop where
 c0:w.cell? ⟨b,0,none⟩=some (I Z 0)
 c1:w.cell? ⟨b,1,none⟩=some (I Z 0)
 c2:w.cell? ⟨b,2,none⟩=some (I Z 0)
 c3:w.cell? ⟨b,3,none⟩=some (I Z 0)
 c4:w.cell? ⟨b,4,none⟩=some (I Z 0)
 f0:w.frozen? ⟨b,0,none⟩=false
 f1:w.frozen? ⟨b,1,none⟩=false
 f2:w.frozen? ⟨b,2,none⟩=false
 f3:w.frozen? ⟨b,3,none⟩=false
 f4:w.frozen? ⟨b,4,none⟩=false
theorem RSps.lt{w:World}{b:Nat}(a:RSps w b):b < w.heap.size:=World.block_lt_of_cell? w _ a.c0
theorem RSps.at_(w:World)(T:TypeId)(b:Nat)(hb:b=w.heap.size):RSps (w.alloc (.cells #[I Z 0,I Z 0,I Z 0,I Z 0,I Z 0] T)) b:=by
 subst hb
 constructor <;> simp
theorem RSps.below{W w:World}{b B:Nat}(a:RSps W b)(hb:Below B W w)(hB:b < B):RSps w b:=
 ⟨(hb.cell (p:=⟨b,0,none⟩) hB).trans a.c0,(hb.cell (p:=⟨b,1,none⟩) hB).trans a.c1,(hb.cell (p:=⟨b,2,none⟩) hB).trans a.c2,(hb.cell (p:=⟨b,3,none⟩) hB).trans a.c3,(hb.cell (p:=⟨b,4,none⟩) hB).trans a.c4,(hb.frozen (p:=⟨b,0,none⟩) hB).trans a.f0,(hb.frozen (p:=⟨b,1,none⟩) hB).trans a.f1,(hb.frozen (p:=⟨b,2,none⟩) hB).trans a.f2,(hb.frozen (p:=⟨b,3,none⟩) hB).trans a.f3,(hb.frozen (p:=⟨b,4,none⟩) hB).trans a.f4⟩
theorem RSps.alloc{W:World}{b:Nat}(a:RSps W b)(o:Obj):RSps (W.alloc o) b:=a.below ((Below.refl _ _).alloc (Nat.le_refl _) o) a.lt
structure VSps(w:World)(b:Nat)(k:Int)(x:Ss):Prop where
 c0:w.cell? ⟨b,0,none⟩=some (I Z k)
 c1:w.cell? ⟨b,1,none⟩=some (I Z x.l.lo)
 c2:w.cell? ⟨b,2,none⟩=some (I Z x.l.hi)
 c3:w.cell? ⟨b,3,none⟩=some (I Z x.u.lo)
 c4:w.cell? ⟨b,4,none⟩=some (I Z x.u.hi)
def putSps(W:World)(b:Nat)(k:Int)(x:Ss):World:=(((((W.setCell ⟨b,0,none⟩ (I Z k)).setCell ⟨b,1,none⟩ (I Z x.l.lo)).setCell ⟨b,2,none⟩ (I Z x.l.hi)).setCell ⟨b,3,none⟩ (I Z x.u.lo)).setCell ⟨b,4,none⟩ (I Z x.u.hi))
theorem RSps.put{W:World}{b:Nat}(a:RSps W b)(k:Int)(x:Ss):VSps (putSps W b k x) b k x:=
 ⟨((World.cell?_setCell_other _ _ _ _ (by simp)).trans (((World.cell?_setCell_other _ _ _ _ (by simp)).trans (((World.cell?_setCell_other _ _ _ _ (by simp)).trans (((World.cell?_setCell_other _ _ _ _ (by simp)).trans ((World.cell?_setCell_same _ _ _ (a.c0)))))))))),((World.cell?_setCell_other _ _ _ _ (by simp)).trans (((World.cell?_setCell_other _ _ _ _ (by simp)).trans (((World.cell?_setCell_other _ _ _ _ (by simp)).trans ((World.cell?_setCell_same _ _ _ (((World.cell?_setCell_other _ _ _ _ (by simp)).trans (a.c1)))))))))),((World.cell?_setCell_other _ _ _ _ (by simp)).trans (((World.cell?_setCell_other _ _ _ _ (by simp)).trans ((World.cell?_setCell_same _ _ _ (((World.cell?_setCell_other _ _ _ _ (by simp)).trans (((World.cell?_setCell_other _ _ _ _ (by simp)).trans (a.c2)))))))))),((World.cell?_setCell_other _ _ _ _ (by simp)).trans ((World.cell?_setCell_same _ _ _ (((World.cell?_setCell_other _ _ _ _ (by simp)).trans (((World.cell?_setCell_other _ _ _ _ (by simp)).trans (((World.cell?_setCell_other _ _ _ _ (by simp)).trans (a.c3)))))))))),(World.cell?_setCell_same _ _ _ (((World.cell?_setCell_other _ _ _ _ (by simp)).trans (((World.cell?_setCell_other _ _ _ _ (by simp)).trans (((World.cell?_setCell_other _ _ _ _ (by simp)).trans (((World.cell?_setCell_other _ _ _ _ (by simp)).trans (a.c4))))))))))⟩
theorem below_putSps{B:Nat}{w W:World}(h:Below B w W){b:Nat}(hb:B≤b)(k:Int)(x:Ss):Below B w (putSps W b k x):=(((((h.setCell hb _).setCell hb _).setCell hb _).setCell hb _).setCell hb _)
def isSps(w:World)(k:Int)(x:Ss)(e:Ending)(w':World):Prop:=e=.returned (.agg #[I Z k,I Z x.l.lo,I Z x.l.hi,I Z x.u.lo,I Z x.u.hi])∧Below w.heap.size w w'
end Go.Proofs.YteimojoicfjdjaaGreat
namespace Go.Proofs.YteimojoicfjdjaaGreat
open Go.RowKit Pl
end Go.Proofs.YteimojoicfjdjaaGreat
namespace Go.Proofs.YteimojoicfjdjaaGreat
set_option maxRecDepth 20000
set_option maxHeartbeats 8000000
open Value renaming int → I
open IntKind renaming i64 → Z
open Go.RowKit Pl
set_option linter.unusedSimpArgs false
set_option linter.unusedVariables false
theorem toSpan_any(x:Sp)(w:World) :
  Calls Tryz.prog 121 #[.agg #[I Z x.lo,I Z x.hi]] w fun e w'=>e=.returned (.agg #[I Z x.lo,I Z x.hi])∧Below w.heap.size w w':=by
 go_enter Tryz.func121,Tryz.ntmps121
 go_wp2
 exact bodyPost_ret (v:=.agg #[I Z x.lo,I Z x.hi]) (by simp [results,Tryz.results121,go_sem]) rfl ⟨rfl,by repeat (first | exact Below.refl _ _ | (refine Below.alloc ?_ ?_ _) | (refine Below.setCell ?_ ?_ _) | (simp;omega) | simp)⟩
theorem toSpans_any(x:Ss)(w:World) :
  Calls Tryz.prog 74 #[.agg #[I Z x.l.lo,I Z x.l.hi,I Z x.u.lo,I Z x.u.hi]] w fun e w'=>e=.returned (.agg #[I Z x.l.lo,I Z x.l.hi,I Z x.u.lo,I Z x.u.hi])∧Below w.heap.size w w':=by
 have F0:Hid (NW (((w.alloc (.cells #[I Z x.l.lo,I Z x.l.hi,I Z x.u.lo,I Z x.u.hi] 88)).alloc (.cells #[I Z 0,I Z 0,I Z 0,I Z 0] 71)).alloc (.cells #[I Z 0,I Z 0,I Z 0,I Z 0] 71)) w.heap.size x):=((NW.at_ w x _ _ (by simp)).alloc _).alloc _
 have F1:Hid (NW (((w.alloc (.cells #[I Z x.l.lo,I Z x.l.hi,I Z x.u.lo,I Z x.u.hi] 88)).alloc (.cells #[I Z 0,I Z 0,I Z 0,I Z 0] 71)).alloc (.cells #[I Z 0,I Z 0,I Z 0,I Z 0] 71)) (w.heap.size + 1) (⟨⟨0,0⟩,⟨0,0⟩⟩:Ss)):=(NW.at_ _ (⟨⟨0,0⟩,⟨0,0⟩⟩:Ss) _ _ (by simp)).alloc _
 have F2:Hid (NW (((w.alloc (.cells #[I Z x.l.lo,I Z x.l.hi,I Z x.u.lo,I Z x.u.hi] 88)).alloc (.cells #[I Z 0,I Z 0,I Z 0,I Z 0] 71)).alloc (.cells #[I Z 0,I Z 0,I Z 0,I Z 0] 71)) (w.heap.size + 2) (⟨⟨0,0⟩,⟨0,0⟩⟩:Ss)):=NW.at_ _ (⟨⟨0,0⟩,⟨0,0⟩⟩:Ss) _ _ (by simp)
 have FB:Hid (Below w.heap.size w (((w.alloc (.cells #[I Z x.l.lo,I Z x.l.hi,I Z x.u.lo,I Z x.u.hi] 88)).alloc (.cells #[I Z 0,I Z 0,I Z 0,I Z 0] 71)).alloc (.cells #[I Z 0,I Z 0,I Z 0,I Z 0] 71))):=(((Below.refl _ _).alloc (Nat.le_refl _) _).alloc (by simp) _).alloc (by simp;omega) _
 go_enter Tryz.func74,Tryz.ntmps74
 go_upto_region 3 with (go_at_call 121;refine (toSpan_any x.l _).mono ?_;rintro e w1 ⟨rfl,hb⟩;have F0:=zH (F0.out.below hb F0.out.lt);have F1:=zH (F1.out.below hb F1.out.lt);have F2:=zH (F2.out.below hb F2.out.lt);have FB:=tB FB hb;clear hb;obtain ⟨x0_0,x0_1,x0_2,x0_3,y0_0,y0_1,y0_2,y0_3⟩:=F0.out;obtain ⟨x1_0,x1_1,x1_2,x1_3,y1_0,y1_1,y1_2,y1_3⟩:=F1.out;obtain ⟨x2_0,x2_1,x2_2,x2_3,y2_0,y2_1,y2_2,y2_3⟩:=F2.out;try dsimp only at x1_0 x1_1 x1_2 x1_3 x2_0 x2_1 x2_2 x2_3)
 clear x0_0 x0_1 x0_2 x0_3 y0_0 y0_1 y0_2 y0_3 x1_0 x1_1 x1_2 x1_3 y1_0 y1_1 y1_2 y1_3 x2_0 x2_1 x2_2 x2_3 y2_0 y2_1 y2_2 y2_3
 obtain ⟨W1,hw_⟩:∃ W1,W1=(w1.setCell ⟨w.heap.size + 2,0,none⟩ (I Z x.l.lo)).setCell ⟨w.heap.size + 2,1,none⟩ (I Z x.l.hi):=⟨_,rfl⟩
 rw [← hw_]
 have F0:Hid (NW W1 w.heap.size x):=by rw [hw_];exact (F0.out.other (by omega)).other (by omega)
 have F1:Hid (NW W1 (w.heap.size + 1) (⟨⟨0,0⟩,⟨0,0⟩⟩:Ss)):=by rw [hw_];exact (F1.out.other (by omega)).other (by omega)
 have F2:Hid (NW W1 (w.heap.size + 2) (⟨⟨x.l.lo,x.l.hi⟩,⟨0,0⟩⟩:Ss)):=by rw [hw_];exact (F2.out.set0 _).set1 _
 have FB:Hid (Below w.heap.size w W1):=by rw [hw_];exact (FB.out.setCell (by simp) _).setCell (by simp) _
 clear hw_
 obtain ⟨x0_0,x0_1,x0_2,x0_3,y0_0,y0_1,y0_2,y0_3⟩:=F0.out
 obtain ⟨x1_0,x1_1,x1_2,x1_3,y1_0,y1_1,y1_2,y1_3⟩:=F1.out
 obtain ⟨x2_0,x2_1,x2_2,x2_3,y2_0,y2_1,y2_2,y2_3⟩:=F2.out
 try dsimp only at x1_0 x1_1 x1_2 x1_3 x2_0 x2_1 x2_2 x2_3
 go_upto_region 4 with (go_at_call 121;refine (toSpan_any x.u _).mono ?_;rintro e w2 ⟨rfl,hb⟩;have F0:=zH (F0.out.below hb F0.out.lt);have F1:=zH (F1.out.below hb F1.out.lt);have F2:=zH (F2.out.below hb F2.out.lt);have FB:=tB FB hb;clear hb;obtain ⟨x0_0,x0_1,x0_2,x0_3,y0_0,y0_1,y0_2,y0_3⟩:=F0.out;obtain ⟨x1_0,x1_1,x1_2,x1_3,y1_0,y1_1,y1_2,y1_3⟩:=F1.out;obtain ⟨x2_0,x2_1,x2_2,x2_3,y2_0,y2_1,y2_2,y2_3⟩:=F2.out;try dsimp only at x1_0 x1_1 x1_2 x1_3 x2_0 x2_1 x2_2 x2_3)
 clear x0_0 x0_1 x0_2 x0_3 y0_0 y0_1 y0_2 y0_3 x1_0 x1_1 x1_2 x1_3 y1_0 y1_1 y1_2 y1_3 x2_0 x2_1 x2_2 x2_3 y2_0 y2_1 y2_2 y2_3
 obtain ⟨W2,hw_⟩:∃ W2,W2=(w2.setCell ⟨w.heap.size + 2,2,none⟩ (I Z x.u.lo)).setCell ⟨w.heap.size + 2,3,none⟩ (I Z x.u.hi):=⟨_,rfl⟩
 rw [← hw_]
 have F0:Hid (NW W2 w.heap.size x):=by rw [hw_];exact (F0.out.other (by omega)).other (by omega)
 have F1:Hid (NW W2 (w.heap.size + 1) (⟨⟨0,0⟩,⟨0,0⟩⟩:Ss)):=by rw [hw_];exact (F1.out.other (by omega)).other (by omega)
 have F2:Hid (NW W2 (w.heap.size + 2) x):=by rw [hw_];exact (F2.out.set2 _).set3 _
 have FB:Hid (Below w.heap.size w W2):=by rw [hw_];exact (FB.out.setCell (by simp) _).setCell (by simp) _
 clear hw_
 obtain ⟨x0_0,x0_1,x0_2,x0_3,y0_0,y0_1,y0_2,y0_3⟩:=F0.out
 obtain ⟨x1_0,x1_1,x1_2,x1_3,y1_0,y1_1,y1_2,y1_3⟩:=F1.out
 obtain ⟨x2_0,x2_1,x2_2,x2_3,y2_0,y2_1,y2_2,y2_3⟩:=F2.out
 try dsimp only at x1_0 x1_1 x1_2 x1_3 x2_0 x2_1 x2_2 x2_3
 go_wp2_with fail
 change bodyPost _ _ _ _ _ (putN W2 (w.heap.size + 1) x)
 obtain ⟨Wf,hWf⟩:∃ Wf,putN W2 (w.heap.size + 1) x=Wf:=⟨_,rfl⟩
 have HRf:NW Wf (w.heap.size + 1) x:=hWf ▸ F1.out.put _
 have HBf:Below w.heap.size w Wf:=hWf ▸ below_putN FB.out (by omega) _
 rw [hWf]
 clear hWf
 obtain ⟨d0,d1,d2,d3,-,-,-,-⟩:=HRf
 try dsimp only at d0 d1 d2 d3
 exact bodyPost_ret (v:=.agg #[I Z x.l.lo,I Z x.l.hi,I Z x.u.lo,I Z x.u.hi]) (by simp [results,Tryz.results74,go_sem,d0,d1,d2,d3]) rfl ⟨rfl,HBf⟩
theorem eqSpan_same(x:Sp)(w:World) :
  Calls Tryz.prog 155 #[.agg #[I Z x.lo,I Z x.hi],.agg #[I Z x.lo,I Z x.hi]] w fun e w'=>e=.returned (.bool true)∧Below w.heap.size w w':=by
 go_enter Tryz.func155,Tryz.ntmps155
 go_wp2
 go_ret
 exact ⟨rfl,by repeat (first | exact Below.refl _ _ | (refine Below.alloc ?_ ?_ _) | (refine Below.setCell ?_ ?_ _) | (simp;omega) | simp)⟩
theorem eqSpans_same(x:Ss)(w:World) :
  Calls Tryz.prog 97 #[.agg #[I Z x.l.lo,I Z x.l.hi,I Z x.u.lo,I Z x.u.hi],.agg #[I Z x.l.lo,I Z x.l.hi,I Z x.u.lo,I Z x.u.hi]] w fun e w'=>e=.returned (.bool true)∧Below w.heap.size w w':=by
 have F0:Hid (NW ((w.alloc (.cells #[I Z x.l.lo,I Z x.l.hi,I Z x.u.lo,I Z x.u.hi] 71)).alloc (.cells #[I Z x.l.lo,I Z x.l.hi,I Z x.u.lo,I Z x.u.hi] 71)) w.heap.size x):=(NW.at_ w x _ _ (by simp)).alloc _
 have F1:Hid (NW ((w.alloc (.cells #[I Z x.l.lo,I Z x.l.hi,I Z x.u.lo,I Z x.u.hi] 71)).alloc (.cells #[I Z x.l.lo,I Z x.l.hi,I Z x.u.lo,I Z x.u.hi] 71)) (w.heap.size + 1) x):=NW.at_ (w.alloc (.cells #[I Z x.l.lo,I Z x.l.hi,I Z x.u.lo,I Z x.u.hi] 71)) x _ _ (by simp)
 have FB:Hid (Below w.heap.size w ((w.alloc (.cells #[I Z x.l.lo,I Z x.l.hi,I Z x.u.lo,I Z x.u.hi] 71)).alloc (.cells #[I Z x.l.lo,I Z x.l.hi,I Z x.u.lo,I Z x.u.hi] 71))):=(((Below.refl _ _).alloc (Nat.le_refl _) _).alloc (by simp <;> omega) _)
 go_enter Tryz.func97,Tryz.ntmps97
 go_wp2_with (go_at_call 155;refine (eqSpan_same _ _).mono ?_;rintro e w1 ⟨rfl,hb⟩;have F0:=zH (F0.out.below hb F0.out.lt);have F1:=zH (F1.out.below hb F1.out.lt);have FB:=tB FB hb;obtain ⟨x0_0,x0_1,x0_2,x0_3,y0_0,y0_1,y0_2,y0_3⟩:=F0.out;obtain ⟨x1_0,x1_1,x1_2,x1_3,y1_0,y1_1,y1_2,y1_3⟩:=F1.out;clear hb)
 go_ret
 exact ⟨rfl,FB.out⟩
end Go.Proofs.YteimojoicfjdjaaGreat
