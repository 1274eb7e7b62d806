/- Parts of the proof: StopP, House, Car. -/
import Derived.Test.YteimojoicfjdjaaGreatZ1
namespace Go.Proofs.YteimojoicfjdjaaGreat.Pl
def stopP(s b:Int):Int:=s / b * s - b * (s / b * (s / b + 1) / 2)
theorem half(n:Int):n * (n + 1)=2 * (n * (n + 1) / 2):=by
 have h:n * (n + 1) % 2=0:=by
  rcases Int.emod_two_eq n with h | h
  ·rw [Int.mul_emod,h];simp
  ·have:(n + 1) % 2=0:=by omega
   rw [Int.mul_emod,this];simp
 omega
theorem specHalf(b n:Int):b * n * (n + 1) / 2=b * (n * (n + 1) / 2):=by
 have h:=half n
 have:b * n * (n + 1)=2 * (b * (n * (n + 1) / 2)):=by rw [Int.mul_assoc,h,Int.mul_left_comm];congr 2;omega
 omega
theorem quot_bd(s b:Int)(h0:0≤s)(hb:1≤b):0≤s / b∧s / b≤s∧b * (s / b)≤s∧s < b * (s / b) + b:=by
 have h1:0≤s / b:=Int.ediv_nonneg h0 (by omega)
 have h2:=Int.mul_ediv_add_emod s b
 have h3:=Int.emod_nonneg s (b:=b) (by omega)
 have h4:=Int.emod_lt_of_pos s (b:=b) (by omega)
 have h5:1 * (s / b)≤b * (s / b):=Int.mul_le_mul_of_nonneg_right hb h1
 exact ⟨h1,by omega,by omega,by omega⟩
theorem mul_bd{x y X Y:Int}(h0:0≤x)(h1:x≤X)(h2:0≤y)(h3:y≤Y):0≤x * y∧x * y≤X * Y:=
 ⟨Int.mul_nonneg h0 h2,Int.mul_le_mul h1 h3 h2 (by omega)⟩
theorem stop_bds(s b n:Int)(h0:0≤s)(h1:s≤2000)(hb:1≤b)(hn:s / b=n) :
  0≤n∧n≤2000∧(0≤n * s∧n * s≤4000000)∧(0≤n * (n + 1)∧n * (n + 1)≤4002000)∧(0≤b * n∧b * n≤2000)∧(0≤b * n * (n + 1)∧b * n * (n + 1)≤4002000)∧(0≤b * (n * (n + 1) / 2)∧b * (n * (n + 1) / 2)≤4002000):=by
 have hq:=quot_bd s b h0 hb
 rw [hn] at hq
 obtain ⟨q1,q2,q3,q4⟩:=hq
 have m1:=mul_bd (X:=2000) (Y:=2000) q1 (by omega) h0 h1
 have m2:=mul_bd (X:=2000) (Y:=2001) q1 (by omega) (y:=n + 1) (by omega) (by omega)
 have m3:0≤b * n:=Int.mul_nonneg (by omega) q1
 have m4:=mul_bd (X:=2000) (Y:=2001) m3 (by omega) (y:=n + 1) (by omega) (by omega)
 have hh:=specHalf b n
 exact ⟨q1,by omega,by omega,by omega,by omega,by omega,by omega⟩
theorem stop_succ(s b:Int)(h0:0≤s)(hb:1≤b):stopP (s + 1) b=stopP s b + s / b:=by
 have q:=quot_bd s b h0 hb
 have q':=quot_bd (s + 1) b (by omega) hb
 unfold stopP
 obtain ⟨n,hn⟩:∃ n,s / b=n:=⟨_,rfl⟩
 obtain ⟨m,hm⟩:∃ m,(s + 1) / b=m:=⟨_,rfl⟩
 rw [hn] at q ⊢;rw [hm] at q' ⊢
 obtain ⟨q1,q2,q3,q4⟩:=q
 obtain ⟨p1,p2,p3,p4⟩:=q'
 have:m=n ∨ m=n + 1:=by
  by_cases h:m≤n
  ·by_cases h':m=n
   ·exact Or.inl h'
   ·have:b * (m + 1)≤b * n:=Int.mul_le_mul_of_nonneg_left (by omega) (by omega)
    rw [Int.mul_add] at this;omega
  ·by_cases h':m=n + 1
   ·exact Or.inr h'
   ·have:b * (n + 2)≤b * m:=Int.mul_le_mul_of_nonneg_left (by omega) (by omega)
    rw [Int.mul_add] at this;omega
 rcases this with rfl | rfl
 ·rw [Int.mul_add];omega
 ·have e1:b * (n + 1)=s + 1:=by
   have:b * (n + 1)=b * n + b:=by rw [Int.mul_add];omega
   omega
  have e2:(n + 1) * (n + 1 + 1) / 2=n * (n + 1) / 2 + (n + 1):=by
   have:(n + 1) * (n + 1 + 1)=n * (n + 1) + 2 * (n + 1):=by rw [Int.mul_comm (n + 1) (n + 1 + 1),← Int.add_mul];congr 1;omega
   omega
  have e3:(n + 1) * (s + 1)=n * s + n + s + 1:=by rw [Int.add_mul,Int.mul_add];omega
  have e4:b * (n * (n + 1) / 2 + (n + 1))=b * (n * (n + 1) / 2) + (s + 1):=by rw [Int.mul_add,e1]
  rw [e2,e4,e3]
  omega
theorem stop_mono(s b:Int)(k:Nat)(h0:0≤s)(hb:1≤b):stopP s b≤stopP (s + k) b:=by
 induction k with
 | zero=>simp
 | succ k ih=>
  have h:=stop_succ (s + k) b (by omega) hb
  have hq:=quot_bd (s + k) b (by omega) hb
  have e:s + ((k + 1:Nat):Int)=s + k + 1:=by omega
  rw [e,h];omega
theorem stop_le(x y b:Int)(h0:0≤x)(h:x≤y)(hb:1≤b):stopP x b≤stopP y b:=by
 have:=stop_mono x b (y - x).toNat h0 hb
 rwa [show x + ((y - x).toNat:Int)=y by omega] at this
structure Hs where
 fl:Int
 gp:Int
 ln:Int
 rf:Int
 sp:Int
 pu:Int
 br:Int
 dr:Int
 lv:Int
 dO:Int
 ld:Int
 qu:Int
structure Hs.Ok(h:Hs):Prop where
 fl1:2≤h.fl
 fl2:h.fl≤12
 gp1:1≤h.gp
 gp2:h.gp≤20000
 rf1:1≤h.rf
 rf2:h.rf≤20000
 ln1:1≤h.ln
 ln2:h.ln≤20000
 sp1:1≤h.sp
 sp2:h.sp≤500
 pu1:1≤h.pu
 pu2:h.pu≤h.sp
 br1:h.pu≤h.br
 br2:h.br≤500
 dr1:0≤h.dr
 dr2:h.dr≤h.pu - 1
 lv1:0≤h.lv
 lv2:h.lv≤50
 do1:1≤h.dO
 do2:h.dO≤20
 ld1:1≤h.ld
 ld2:h.ld≤20
 qu1:1≤h.qu
 qu2:h.qu≤40
def Hs.rangeB(h:Hs):Bool:=
 inB h.fl 2 12 && (inB h.gp 1 20000 && (inB h.rf 1 20000 && (inB h.ln 1 20000 && (inB h.sp 1 500 && (inB h.pu 1 h.sp && (inB h.br h.pu 500 && (inB h.dr 0 (h.pu - 1) && (inB h.lv 0 50 && (inB h.dO 1 20 && (inB h.ld 1 20 && inB h.qu 1 40))))))))))
theorem Hs.ok_of{h:Hs}(e:h.rangeB=true):h.Ok:=by
 unfold Hs.rangeB at e
 simp only [Bool.and_eq_true,inB_iff] at e
 obtain ⟨⟨a1,a2⟩,⟨b1,b2⟩,⟨c1,c2⟩,⟨d1,d2⟩,⟨e1,e2⟩,⟨f1,f2⟩,⟨g1,g2⟩,⟨i1,i2⟩,⟨j1,j2⟩,⟨k1,k2⟩,⟨l1,l2⟩,m1,m2⟩:=e
 exact ⟨a1,a2,b1,b2,c1,c2,d1,d2,e1,e2,f1,f2,g1,g2,i1,i2,j1,j2,k1,k2,l1,l2,m1,m2⟩
theorem Hs.ok_iff{h:Hs}:h.rangeB=true ↔ h.Ok:=by
 refine ⟨Hs.ok_of,fun o=>?_⟩
 unfold Hs.rangeB
 simp only [Bool.and_eq_true,inB_iff]
 exact ⟨⟨o.fl1,o.fl2⟩,⟨o.gp1,o.gp2⟩,⟨o.rf1,o.rf2⟩,⟨o.ln1,o.ln2⟩,⟨o.sp1,o.sp2⟩,⟨o.pu1,o.pu2⟩,⟨o.br1,o.br2⟩,⟨o.dr1,o.dr2⟩,⟨o.lv1,o.lv2⟩,⟨o.do1,o.do2⟩,⟨o.ld1,o.ld2⟩,o.qu1,o.qu2⟩
def Hs.apart(h:Hs):Int:=h.ln + h.sp + stopP h.sp h.br + 2 * h.lv
def Hs.fault(h:Hs):Int:=if h.rangeB=true then (if h.gp < h.apart ∨ h.rf < h.apart then 1 else 0) else 3
def Hs.level(h:Hs)(f:Int):Int:=if f < 0 then -h.rf else if h.fl≤f then (h.fl - 1) * h.gp + h.rf else f * h.gp
def Hs.room(h:Hs):Int:=h.lv + h.sp + stopP h.sp h.br
def Hs.low(h:Hs):Int:=-h.rf - h.room
def Hs.high(h:Hs):Int:=(h.fl - 1) * h.gp + h.rf + h.room
def Hs.run(h:Hs):Int:=(h.high - h.low + h.sp - 1) / h.sp + (4 * h.sp + h.pu - 1) / h.pu + 10
def Hs.serve(h:Hs):Int:=4 * h.run + 4 * h.dO + 20
theorem stop_small(s b:Int)(h1:1≤s)(h2:s≤500)(h3:1≤b):0≤stopP s b∧stopP s b≤4000000:=by
 obtain ⟨b1,b2,b3,b4,b5,b6,b7⟩:=stop_bds s b _ (by omega) (by omega) h3 rfl
 have hz:stopP 0 b=0:=by unfold stopP;simp
 have hm:=stop_le 0 s b (by omega) (by omega) h3
 rw [hz] at hm
 exact ⟨hm,by unfold stopP;omega⟩
theorem Hs.Ok.stop_bd{h:Hs}(o:h.Ok):0≤stopP h.sp h.br∧stopP h.sp h.br≤4000000:=by
 have h1:=o.sp1;have h2:=o.sp2;have h3:=o.pu1;have h4:=o.br1
 obtain ⟨b1,b2,b3,b4,b5,b6,b7⟩:=stop_bds h.sp h.br _ (by omega) (by omega) (by omega) rfl
 have hz:stopP 0 h.br=0:=by unfold stopP;simp
 have hm:=stop_le 0 h.sp h.br (by omega) (by omega) (by omega)
 rw [hz] at hm
 exact ⟨hm,by unfold stopP;omega⟩
theorem Hs.Ok.top_bd{h:Hs}(o:h.Ok):0≤(h.fl - 1) * h.gp∧(h.fl - 1) * h.gp≤220000:=by
 have h1:=o.fl1;have h2:=o.fl2;have h3:=o.gp1;have h4:=o.gp2
 have:=mul_bd (X:=11) (Y:=20000) (x:=h.fl - 1) (y:=h.gp) (by omega) (by omega) (by omega) (by omega)
 omega
theorem Hs.Ok.floor_bd{h:Hs}(o:h.Ok)(f:Int)(f1:0≤f)(f2:f≤12):0≤f * h.gp∧f * h.gp≤240000:=by
 have h3:=o.gp1;have h4:=o.gp2
 have:=mul_bd (X:=12) (Y:=20000) (x:=f) (y:=h.gp) f1 f2 (by omega) (by omega)
 omega
theorem Hs.Ok.level_bd{h:Hs}(o:h.Ok)(f:Int)(f1:-1≤f)(f2:f≤12):-20000≤h.level f∧h.level f≤240000:=by
 have h1:=o.rf1;have h2:=o.rf2
 obtain ⟨t1,t2⟩:=o.top_bd
 unfold Hs.level
 by_cases c1:f < 0
 ·rw [if_pos c1];omega
 ·obtain ⟨u1,u2⟩:=o.floor_bd f (by omega) f2
  rw [if_neg c1]
  by_cases c2:h.fl≤f
  ·rw [if_pos c2];omega
  ·rw [if_neg c2];omega
theorem Hs.Ok.room_bd{h:Hs}(o:h.Ok):1≤h.room∧h.room≤4001000:=by
 obtain ⟨s1,s2⟩:=o.stop_bd
 have h1:=o.sp1;have h2:=o.sp2;have h8:=o.lv1;have h9:=o.lv2
 unfold Hs.room;omega
theorem Hs.fault_zero{h:Hs}(e:h.fault=0):h.rangeB=true∧h.apart≤h.gp∧h.apart≤h.rf:=by
 unfold Hs.fault at e
 by_cases hr:h.rangeB=true
 ·rw [if_pos hr] at e
  by_cases hn:h.gp < h.apart ∨ h.rf < h.apart
  ·rw [if_pos hn] at e;cases e
  ·exact ⟨hr,by omega,by omega⟩
 ·rw [if_neg hr] at e;cases e
def absI(a:Int):Int:=if a < 0 then -a else a
def Hs.dist(h:Hs)(p f:Int):Int:=absI (p - h.level f)
structure Hs.NearTo(h:Hs)(p n r:Int):Prop where
 lo:-1≤r
 hi:r < n
 left:∀ f,-1≤f→f < r→h.dist p r < h.dist p f
 right:∀ f,r < f→f < n→h.dist p r≤h.dist p f
theorem Hs.NearTo.start(h:Hs)(p:Int):h.NearTo p 0 (-1):=⟨by omega,by omega,fun f h1 h2=>by omega,fun f h1 h2=>by omega⟩
theorem Hs.NearTo.take{h:Hs}{p n r:Int}(a:h.NearTo p n r)(hn:0≤n)(hd:h.dist p n < h.dist p r):h.NearTo p (n + 1) n:=by
 refine ⟨by omega,by omega,fun f h1 h2=>?_,fun f h1 h2=>by omega⟩
 by_cases c:f < r
 ·have:=a.left f h1 c;omega
 ·by_cases e:f=r
  ·subst e;exact hd
  ·have:=a.right f (by omega) h2;omega
theorem Hs.NearTo.stay{h:Hs}{p n r:Int}(a:h.NearTo p n r)(hd:¬ h.dist p n < h.dist p r):h.NearTo p (n + 1) r:=by
 refine ⟨a.lo,by have:=a.hi;omega,a.left,fun f h1 h2=>?_⟩
 by_cases c:f < n
 ·exact a.right f h1 c
 ·obtain rfl:f=n:=by omega
  omega
theorem Hs.NearTo.one{h:Hs}{p n r s:Int}(a:h.NearTo p n r)(b:h.NearTo p n s):r=s:=by
 by_cases c:r < s
 ·have h1:=b.left r a.lo c;have h2:=a.right s c b.hi;omega
 ·by_cases d:s < r
  ·have h1:=a.left s b.lo d;have h2:=b.right r d a.hi;omega
  ·omega
structure Cs where
 pos:Int
 vel:Int
 door:Int
structure Cm where
 push:Int
 brk:Bool
 opn:Bool
structure Sh where
 lo:Cs
 up:Cs
def Hs.carR(h:Hs)(c:Cs):Bool:=inB c.pos h.low h.high && (inB c.vel (-h.sp) h.sp && inB c.door 0 h.dO)
def Hs.carC(h:Hs)(c:Cs):Int:=if h.carR c=true then (if c.door ≠ 0∧c.vel ≠ 0 then 1 else 0) else 3
def Hs.car(h:Hs)(c:Cs):Int:=if h.fault=0 then h.carC c else h.fault
def Cm.bad(x:Cm):Bool:=((x.brk || x.opn) && (x.push != 0)) || (x.brk && x.opn)
def Hs.cmdC(h:Hs)(x:Cm):Int:=if inB x.push (-h.pu) h.pu=true then (if x.bad=true then 1 else 0) else 3
def Hs.cmd(h:Hs)(x:Cm):Int:=if h.fault=0 then h.cmdC x else h.fault
def Hs.hi(h:Hs)(p v:Int):Int:=if 0 < v then p + stopP v h.br else p
def Hs.lo(h:Hs)(p v:Int):Int:=if v < 0 then p - stopP (-v) h.br else p
def Hs.shaftC(h:Hs)(s:Sh):Int:=
 if h.lo s.up.pos s.up.vel - h.hi s.lo.pos s.lo.vel < h.ln then 1
 else if h.high < h.hi s.up.pos s.up.vel ∨ h.lo s.lo.pos s.lo.vel < h.low then 3 else 0
def Hs.shaft(h:Hs)(s:Sh):Int:=if h.car s.lo=0 then (if h.car s.up=0 then h.shaftC s else h.car s.up) else h.car s.lo
theorem Hs.car_house{h:Hs}{c:Cs}(hf:h.fault ≠ 0):h.car c=h.fault:=by unfold Hs.car;rw [if_neg hf]
theorem Hs.car_ok{h:Hs}{c:Cs}(hf:h.fault=0):h.car c=h.carC c:=by unfold Hs.car;rw [if_pos hf]
theorem Hs.cmd_ok{h:Hs}{x:Cm}(hf:h.fault=0):h.cmd x=h.cmdC x:=by unfold Hs.cmd;rw [if_pos hf]
structure CarOk(h:Hs)(c:Cs):Prop where
 hf:h.fault=0
 p1:h.low≤c.pos
 p2:c.pos≤h.high
 v1:-h.sp≤c.vel
 v2:c.vel≤h.sp
 d1:0≤c.door
 d2:c.door≤h.dO
 dv:c.door=0 ∨ c.vel=0
theorem Hs.car_zero{h:Hs}{c:Cs}(e:h.car c=0):CarOk h c:=by
 have hf:h.fault=0:=by
  by_cases hf:h.fault=0
  ·exact hf
  ·rw [Hs.car_house hf] at e;exact e
 rw [Hs.car_ok hf] at e
 unfold Hs.carC at e
 by_cases hr:h.carR c=true
 ·rw [if_pos hr] at e
  by_cases hn:c.door ≠ 0∧c.vel ≠ 0
  ·rw [if_pos hn] at e;cases e
  ·unfold Hs.carR at hr
   simp only [Bool.and_eq_true,inB_iff] at hr
   obtain ⟨⟨a1,a2⟩,⟨b1,b2⟩,d1,d2⟩:=hr
   exact ⟨hf,a1,a2,b1,b2,d1,d2,by omega⟩
 ·rw [if_neg hr] at e;cases e
theorem CarOk.ok{h:Hs}{c:Cs}(k:CarOk h c):h.Ok:=Hs.ok_of (Hs.fault_zero k.hf).1
theorem Hs.Ok.ends{h:Hs}(o:h.Ok):-4100000≤h.low∧h.low≤h.high∧h.high≤4300000:=by
 obtain ⟨t1,t2⟩:=o.top_bd
 obtain ⟨m1,m2⟩:=o.room_bd
 have r1:=o.rf1;have r2:=o.rf2
 unfold Hs.high Hs.low
 omega
end Go.Proofs.YteimojoicfjdjaaGreat.Pl
