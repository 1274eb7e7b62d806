/- Parts of the proof: PersI, PersKd, NeP. -/
import Derived.Test.YteimojoicfjdjaaGreatZ18
import Derived.Test.YteimojoicfjdjaaGreatZ20
import Derived.BigGuardPart
import Derived.Deep.RegionHeld3
namespace Go.Proofs.YteimojoicfjdjaaGreat
open Go.RowKit Pl
set_option linter.unusedSimpArgs false
set_option linter.unusedVariables false
structure RL(w:World)(b:Nat):Prop where
 c0:w.cell? ⟨b,0,none⟩=some (.int .i64 0)
 c1:w.cell? ⟨b,1,none⟩=some (.int .i64 0)
 c2:w.cell? ⟨b,2,none⟩=some (.int .i64 0)
 c3:w.cell? ⟨b,3,none⟩=some (.slice none 0 0)
 f0:w.frozen? ⟨b,0,none⟩=false
 f1:w.frozen? ⟨b,1,none⟩=false
 f2:w.frozen? ⟨b,2,none⟩=false
 f3:w.frozen? ⟨b,3,none⟩=false
theorem RL.lt{w:World}{b:Nat}(a:RL w b):b < w.heap.size:=World.block_lt_of_cell? w _ a.c0
theorem RL.at_(w:World)(T:TypeId)(b:Nat)(hb:b=w.heap.size):RL (w.alloc (.cells #[.int .i64 0,.int .i64 0,.int .i64 0,.slice none 0 0] T)) b:=by
 subst hb
 constructor <;> simp
theorem RL.of{W w:World}{b:Nat}(a:RL W b)(hc:∀ o,w.cell? ⟨b,o,none⟩=W.cell? ⟨b,o,none⟩)(hf:∀ o,w.frozen? ⟨b,o,none⟩=W.frozen? ⟨b,o,none⟩):RL w b:=
 ⟨(hc 0).trans a.c0,(hc 1).trans a.c1,(hc 2).trans a.c2,(hc 3).trans a.c3,(hf 0).trans a.f0,(hf 1).trans a.f1,(hf 2).trans a.f2,(hf 3).trans a.f3⟩
theorem RL.below{W w:World}{b B:Nat}(a:RL W b)(hb:Below B W w)(hB:b < B):RL w b:=a.of (fun o=>hb.cell (p:=⟨b,o,none⟩) hB) (fun o=>hb.frozen (p:=⟨b,o,none⟩) hB)
theorem RL.alloc{W:World}{b:Nat}(a:RL W b)(o:Obj):RL (W.alloc o) b:=a.below ((Below.refl _ _).alloc (Nat.le_refl _) o) a.lt
theorem RL.grown{W w:World}{b:Nat}{row:Option Nat}(a:RL W b)(hg:W.grownBy w row)(hne:some b ≠ row):RL w b:=
 a.of (fun o=>World.cell?_of_block (w:=W) (hg.block b a.lt hne)) (fun o=>World.frozen?_of_block (w:=W) (hg.block b a.lt hne))
def carB(sh ca:Int):Bool:=inB sh 0 2 && inB ca 0 1
def Hs.askd(h:Hs)(x:Lg)(sh ca fl:Int):Int:=if Hs.led h x=0 then (if carB sh ca=true∧inB fl 0 (h.fl - 1)=true then 0 else 3) else Hs.led h x
end Go.Proofs.YteimojoicfjdjaaGreat
namespace Go.Proofs.YteimojoicfjdjaaGreat
set_option maxRecDepth 20000
set_option maxHeartbeats 8000000
open Go.RowKit Pl
set_option linter.unusedSimpArgs false
set_option linter.unusedVariables false
def act(p:Pe):Bool:=p.st == 0 || p.st == 1
def skipB(full:Bool)(sh ca:Int)(p:Pe):Bool:=((p.sh != sh || p.ca != ca) || !act p) || (full && p.st != 1)
def need(full:Bool)(sh ca:Int):List Pe→Option (Int × Int)
 | []=>none
 | p :: l=>if skipB full sh ca p=true then need full sh ca l else some (p.id,if p.st=1 then p.tw else p.fr)
def needR(o:Option (Int × Int)):Int × Int × Int:=match o with | some (i,f)=>(0,i,f) | none=>(4,0,0)
def Hs.need(h:Hs)(l:List Pe)(sh ca:Int):Int × Int × Int:=needR (Go.Proofs.YteimojoicfjdjaaGreat.need (decide (h.ld≤(cnt 1 sh ca l:Int))) sh ca l)
theorem need_at{full:Bool}{sh ca:Int}{l:List Pe}{i:Nat}{p:Pe}(h:l[i]? = some p):need full sh ca (l.drop i)=if skipB full sh ca p=true then need full sh ca (l.drop (i + 1)) else some (p.id,if p.st=1 then p.tw else p.fr):=by
 have hi:i < l.length:=(List.getElem?_eq_some_iff.1 h).1
 have e:l[i]=p:=(List.getElem?_eq_some_iff.1 h).2
 rw [List.drop_eq_getElem_cons hi,e]
 rfl
theorem l7Active_any(p:Pe)(w:World) :
  Calls Tryz.prog 158 #[.agg #[.int .i64 p.id,.int .i64 p.fr,.int .i64 p.tw,.int .i64 p.sh,.int .i64 p.ca,.int .i64 p.st,.int .i64 p.pl]] w fun e w'=>e=.returned (.bool (act p))∧Below w.heap.size w w':=by
 unfold act
 cases k:(p.st == 0)
 all_goals
  go_enter Tryz.func158,Tryz.ntmps158
  go_wp2
  go_ret
  exact ⟨ret_bool (by simp),by repeat (first | exact Below.refl _ _ | (refine Below.alloc ?_ ?_ _) | (refine Below.setCell ?_ ?_ _) | (simp;omega) | simp)⟩
end Go.Proofs.YteimojoicfjdjaaGreat
namespace Go.Proofs.YteimojoicfjdjaaGreat
open Go.RowKit Pl
set_option linter.unusedSimpArgs false
set_option linter.unusedVariables false
def floor8(h:Hs)(c:Cs):Int:=max 0 (min (h.fl - 1) (Hs.at6 h c.pos))
def carAt(s:Sh)(ca:Int):Cs:=if ca=0 then s.lo else s.up
def ridB(sh ca:Int)(p:Pe):Bool:=p.sh == sh && (p.ca == ca && p.st == 1)
def rec8(h:Hs)(ps:List Pe)(s:Sh)(sh ca:Int):Int × Int × Int:=match ps.find? (ridB sh ca) with | some p=>(0,p.id,floor8 h (carAt s ca)) | none=>(4,0,0)
def shOf(ds:List Dk)(sh:Int):Sh:=match ds[sh.toNat]? with | some d=>d.sh | none=>⟨⟨0,0,0⟩,⟨0,0,0⟩⟩
def need8(h:Hs)(ds:List Dk)(ps:List Pe)(rc:Bool)(sh ca:Int):Int × Int × Int:=if rc=true then rec8 h ps (shOf ds sh) sh ca else Hs.need h ps sh ca
def lead8(a b:Int × Int × Int):Int:=if a.1 ≠ 0∧b.1 ≠ 0 then -1 else if b.1 ≠ 0 ∨ (a.1=0∧a.2.1 < b.2.1) then 0 else 1
theorem rec_hit{h:Hs}{ps:List Pe}{s:Sh}{sh ca:Int}{i:Nat}{p:Pe}(hp:ps[i]? = some p)(hb:ridB sh ca p=true)(ok:∀ (j:Nat) q,j < i→ps[j]? = some q→ridB sh ca q=false):rec8 h ps s sh ca=(0,p.id,floor8 h (carAt s ca)):=by
 have:ps.find? (ridB sh ca)=some p:=by
  induction ps generalizing i with
  | nil=>simp at hp
  | cons q l ih=>
   cases i with
   | zero=>
    simp at hp
    subst hp
    simp [List.find?_cons,hb]
   | succ i=>
    have h0:=ok 0 q (by omega) (by simp)
    rw [List.find?_cons,h0]
    exact ih (by simpa using hp) (fun j r hj hr=>ok (j + 1) r (by omega) (by simpa using hr))
 unfold rec8
 rw [this]
theorem rec_none{h:Hs}{ps:List Pe}{s:Sh}{sh ca:Int}(ok:∀ (j:Nat) q,j < ps.length→ps[j]? = some q→ridB sh ca q=false):rec8 h ps s sh ca=(4,0,0):=by
 have:ps.find? (ridB sh ca)=none:=by
  rw [List.find?_eq_none]
  intro q hq
  obtain ⟨j,hj⟩:=List.getElem?_of_mem hq
  have:=ok j q (List.getElem?_eq_some_iff.1 hj).1 hj
  simp [this]
 unfold rec8
 rw [this]
end Go.Proofs.YteimojoicfjdjaaGreat
