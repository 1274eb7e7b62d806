/- Parts of the proof: SxA, SxB. -/
import Derived.Test.YteimojoicfjdjaaGreatZ6
import Derived.OrdersHeld
import Derived.LoopN
import Derived.Scope
import Derived.Laws.Tables
import Derived.Laws.Rows
import Derived.Deep.MidRow
import Derived.Below
import Derived.Great.BuildSlice
namespace Go.Proofs.YteimojoicfjdjaaGreat.Sx
set_option linter.unusedVariables false
open Go.RowKit Pl
def prun{α:Type}(P:Program):Sem α→Option α
 | .pure a=>some a
 | .program k=>prun P (k P)
 | _=>none
theorem prun_run{α:Type}{P:Program}(s:Sem α)(a:α)(h:prun P s=some a)(w:World):s.run P w=.ok a w:=by
 induction s with
 | pure b=>simp only [prun,Option.some.injEq] at h;subst h;rfl
 | program k ih=>exact ih P h
 | _=>simp [prun] at h
def flat1:Value→Bool
 | .pointer (some _)=>false
 | .slice (some _) _ _=>false
 | .agg _=>false
 | _=>true
def flat:Value→Bool
 | .agg cs=>cs.toList.all flat1
 | v=>flat1 v
def isW(q:Nat):Bool:=Nat.ble 1099511627776 q
def isRW(q:Nat):Bool:=Nat.ble 2199023255552 q
def isF(q:Nat):Bool:=Nat.ble 1073741824 q
theorem isF_of{q:Nat}(h:isW q=true):isF q=true:=by
 unfold isW at h;unfold isF
 exact Nat.ble_eq_true_of_le (Nat.le_trans (by decide) (Nat.le_of_ble_eq_true h))
theorem isW_not{q:Nat}(h:isF q=false):isW q=false:=by
 cases e:isW q
 ·rfl
 ·rw [isF_of e] at h;cases h
def fw1:Value→Bool
 | .pointer (some a)=>isW a.block
 | .slice (some a) _ _=>isW a.block
 | .agg _=>false
 | _=>true
def fw:Value→Bool
 | .agg cs=>cs.toList.all fw1
 | v=>fw1 v
def ren1(r:Nat→Nat × Nat):Value→Value
 | .pointer (some a)=>.pointer (some { a with block:=(r a.block).1,off:=(r a.block).2 + a.off })
 | .slice (some a) l c=>.slice (some { a with block:=(r a.block).1,off:=(r a.block).2 + a.off }) l c
 | v=>v
def ren(r:Nat→Nat × Nat):Value→Value
 | .agg cs=>.agg (cs.toList.map (ren1 r)).toArray
 | v=>ren1 r v
theorem ren1_flat{r:Nat→Nat × Nat}{v:Value}(h:flat1 v=true):ren1 r v=v:=by
 unfold flat1 at h;unfold ren1;split <;> simp_all
theorem ren_flat{r:Nat→Nat × Nat}{v:Value}(h:flat v=true):ren r v=v:=by
 unfold flat at h
 split at h
 ·rename_i cs
  have:cs.toList.map (ren1 r)=cs.toList:=by
   conv=>rhs;rw [← List.map_id cs.toList]
   exact List.map_congr_left fun v hv=>ren1_flat (List.all_eq_true.1 h v hv)
  show Value.agg (cs.toList.map (ren1 r)).toArray=_
  rw [this]
 ·rename_i hn
  have:ren r v=ren1 r v:=by unfold ren;split <;> simp_all
  rw [this,ren1_flat h]
abbrev Row:=List Value × TypeId
structure St where
 n:Nat
 k:Nat
 t:Nat→Option Value
 m:Nat→Option Row
 g:List Pe
def fits(d:Option Nat)(n:Nat):Bool:=
 match d with
 | some d=>Nat.blt d n
 | none=>true
def St.put(s:St)(d:Option Nat)(v:Value):St:=
 match d with
 | some d=>⟨s.n,s.k,fun j=>cond (Nat.beq j d) (some v) (s.t j),s.m,s.g⟩
 | none=>s
def St.row(s:St)(b:Option (Nat × Row)):St:=
 match b with
 | some (r,c)=>⟨s.n,s.k,s.t,fun j=>cond (Nat.beq j r) (some c) (s.m j),s.g⟩
 | none=>s
def St.gh(s:St)(g:Option (List Pe)):St:=
 match g with
 | some g=>⟨s.n,s.k,s.t,s.m,g⟩
 | none=>s
def St.ev(s:St):Operand→Option Value
 | .tmp t=>s.t t
 | .const v=>cond (flat v) (some v) none
 | .global _=>none
 | .func f=>some (.func (.func f) #[] #[])
structure Ent(P:Program) where
 f:Nat
 sp:List Value→Option (Option Prop × Value)
 ok:∀ args p v,sp args=some (p,v)→(∀ q,p=some q→q)→∀ w,Calls P f args.toArray w fun e w'=>e=.returned v∧Below w.heap.size w w'
 sr:List Value→List Value→Option (Option Prop × Value)
 okr:∀ (az cs:List Value) p v,sr az cs=some (p,v)→(∀ q,p=some q→q)→∀ (b:Nat) (T:TypeId) (w:World),w.heap[b]? = some (Obj.cells cs.toArray T (0,0)) →
  Calls P f (az ++ [Value.slice (some ⟨b,0,none⟩) cs.length cs.length]).toArray w fun e w'=>e=.returned v∧Below w.heap.size w w'
def mkE{P:Program}(f:Nat)(sp:List Value→Option (Option Prop × Value))(ok:∀ args p v,sp args=some (p,v)→(∀ q,p=some q→q)→∀ w,Calls P f args.toArray w fun e w'=>e=.returned v∧Below w.heap.size w w'):Ent P:=
 ⟨f,sp,ok,fun _ _=>none,fun az cs p v h=>by cases h⟩
def look{P:Program}:List (Ent P)→Nat→Option (Ent P)
 | [],_=>none
 | e :: r,f=>cond (Nat.beq e.f f) (some e) (look r f)
structure EntW where
 f:Nat
 sp:List Pe→(Nat→Option Row)→List Value→Option (Option Prop × Value × Option (List Pe))
def lookW:List EntW→Nat→Option EntW
 | [],_=>none
 | e :: r,f=>cond (Nat.beq e.f f) (some e) (lookW r f)
structure EntB where
 f:Nat
 sp:List Pe→(Nat→Option Row)→List Value→Option (Option Prop × Value × List Pe × (Nat→Option Row))
def lookB:List EntB→Nat→Option EntB
 | [],_=>none
 | e :: r,f=>cond (Nat.beq e.f f) (some e) (lookB r f)
structure Cf where
 calls:List EntW
 ix:TypeId→Value→Value→Option (Prop × Value)
 nm:Bool
 big:List EntB
structure Eff where
 p:Option Prop
 v:Value
 b:Option (Nat × Row)
 c:Option Nat
 j:Bool
 g:Option (List Pe)
def sameK:Value→Value→Bool
 | .int .i64 _,.int .i64 _=>true
 | .bool _,.bool _=>true
 | _,_=>false
def sameKs:List Value→List Value→Bool
 | _,[]=>true
 | u :: us,v :: vs=>sameK u v && sameKs us vs
 | [],_ :: _=>false
def name0(s:St)(d:Nat):Nat:=d + 4096 * s.k
def evs(s:St):List Operand→Option (List Value)
 | []=>some []
 | x :: l=>match s.ev x with
  | some v=>cond (flat v) ((evs s l).map (v :: ·)) none
  | none=>none
def eva(s:St):List Operand→Option (List Value)
 | []=>some []
 | x :: l=>match s.ev x with
  | some v=>cond (fw v) ((eva s l).map (v :: ·)) none
  | none=>none
def evp(s:St):List (Nat × Operand)→Option (List (Nat × Value))
 | []=>some []
 | (i,x) :: l=>match s.ev x with
  | some v=>cond (flat v) ((evp s l).map ((i,v) :: ·)) none
  | none=>none
def sarg(s:St)(c:Call):Option (Nat × List Value × Nat × List Value):=
 match c.callee with
 | .value (.func f)=>
  match c.args.toList.reverse with
  | x :: r=>
   match s.ev x with
   | some (.slice (some ⟨b,0,none⟩) l n)=>
    match s.m b with
    | some (cs,_)=>
     match evs s r.reverse with
     | some az=>cond (Nat.beq l cs.length && Nat.beq n cs.length && cs.all flat1 && (!isW b && !cs.isEmpty)) (some (f,az,b,cs)) none
     | none=>none
    | none=>none
   | _=>none
  | []=>none
 | _=>none
section
variable (P:Program) (L:List (Ent P)) (C:Cf)
def callW(c:Call):Option EntW:=
 match c.callee with
 | .value (.func f)=>lookW C.calls f
 | _=>none
def callB(c:Call):Option EntB:=
 match c.callee with
 | .value (.func f)=>lookB C.big f
 | _=>none
def entersL(f:Nat):Bool:=
 match P.funcs[f]? with
 | some fn => !(fn.name == "runtime.NumGoroutine") && fn.body.isSome
 | none=>false
def builtL(e:TypeId)(len:Nat)(parts:List (Nat × Value)):Option (List Value):=
 match P.info? e with
 | some ie=>
  match ie.zero with
  | some z=>cond (Nat.ble 1 (len * ie.size) && Nat.ble (len * ie.size) 65536) ((Instr.fill (fun i=>some (i * ie.size,ie.size)) ((Array.range (len * ie.size)).map (z.cells[· % z.cells.size]!)) parts).map (·.toList)) none
  | none=>none
 | none=>none
def newS(s:St)(d:Option Nat)(n:Nat)(T:TypeId)(cs:List Value):Option Eff:=
 match d with
 | none=>none
 | some d=>match s.m (name0 s d) with
  | some _=>none
  | none=>cond (isF (name0 s d)) none (some ⟨none,.slice (some ⟨name0 s d,0,none⟩) n n,some (name0 s d,cs,T),none,false,none⟩)
def sizeL(T:TypeId):Option Nat:=(P.info? T).map (·.size)
def loadL(T:TypeId)(cs:List Value)(o:Nat):Option Value:=
 match P.underlying T with
 | none=>none
 | some d=>
  match d.isRow with
  | true=>
   match P.info? T with
   | none=>none
   | some i=>cond (Nat.ble (o + i.size) cs.length) (some (.agg ((cs.drop o).take i.size).toArray)) none
  | false=>match cs[o]? with
   | some v=>cond v.oneCell' (some v) none
   | none=>none
def spliceL(cs:List Value)(o:Nat)(vs:List Value):List Value:=cs.take o ++ vs ++ cs.drop (o + vs.length)
abbrev name:=name0
def newL(s:St)(d:Option Nat)(T:TypeId)(cs:List Value):Option Eff:=
 match d with
 | none=>none
 | some d=>match s.m (name s d) with
  | some _=>none
  | none=>cond (isF (name s d)) none (some ⟨none,.pointer (some ⟨name s d,0,none⟩),some (name s d,cs,T),none,false,none⟩)
def addrL:Value→Option (Nat × Nat)
 | .pointer (some ⟨b,o,none⟩)=>some (b,o)
 | _=>none
def knownFlat(s:St)(o:Op):Bool:=o.operands.toList.all fun x=>match s.ev x with | some v=>flat v | none=>false
def nextL:Next→Option Eff
 | .value v=>cond (flat v) (some ⟨none,v,none,none,false,none⟩) none
 | .enter f args=>
  match look L f with
  | none=>none
  | some e=>match e.sp args.toList with
   | none=>none
   | some (p,v)=>cond (flat v) (some ⟨p,v,none,none,false,none⟩) none
 | _=>none
def notSelect:Op→Bool
 | .select _ _=>false
 | _=>true
def gen0(o:Oper)(s:St):Option Eff:=
 cond (knownFlat s o.op && notSelect o.op)
  (match prun P (execOp (fun x=>(s.ev x).getD undef) o) with
  | some nx=>nextL P L nx
  | none=>none) none
def eff0(o:Oper)(s:St):Option Eff:=
 match o.op with
 | .move x | .assign x=>(s.ev x).map fun v=>⟨none,v,none,none,false,none⟩
 | .box T x=>
  match s.ev x with
  | some v=>newL s o.dst T v.cells.toList
  | none=>none
 | .alloc T=>
  match P.info? T with
  | some i=>match i.zero with
   | some z=>cond (flat z) (newL s o.dst T z.cells.toList) none
   | none=>none
  | none=>none
 | .load T x=>
  match s.ev x with
  | some a=>match addrL a with
   | some (b,off)=>match s.m b with
    | some (cs,_)=>(loadL P T cs off).map fun v=>⟨none,v,none,some b,false,none⟩
    | none=>none
   | none=>none
  | none=>none
 | .store T x y=>
  match s.ev x,s.ev y with
  | some a,some v=>match addrL a with
   | some (b,off)=>match s.m b with
    | some (cs,U)=>match sizeL P T with
     | some n=>
      cond (Nat.beq v.cells.size n && Nat.ble (off + n) cs.length && v.cells.toList.all (·.oneCell') && ((!isW b && (!cs.isEmpty || v.cells.isEmpty)) || (isRW b && flat v && sameKs (cs.drop off) v.cells.toList)))
       (some ⟨none,undef,some (b,spliceL cs off v.cells.toList,U),some b,false,none⟩) none
     | none=>none
    | none=>none
   | none=>none
  | _,_=>none
 | .fieldAddr S x f=>
  match s.ev x with
  | some a=>match addrL a with
   | some (b,off)=>match P.underlying S with
    | some (.struct fs)=>match fs[f]? with
     | some fd=>match sizeL P fd.type with
      | some (_ + 1)=>some ⟨none,.pointer (some ⟨b,off + fd.offset,none⟩),none,none,false,none⟩
      | _=>none
     | none=>none
    | _=>none
   | none=>none
  | none=>none
 | .buildSlice T len parts=>
  match P.underlying T with
  | some (.slice e)=>match evp s parts.toList with
   | some ps=>match builtL P e len ps with
    | some cs=>cond (cs.all flat1) (newS s o.dst len e cs) none
    | none=>none
   | none=>none
  | _=>none
 | .nilCheck x=>
  match s.ev x with
  | some (.pointer (some a))=>some ⟨none,.pointer (some a),none,none,false,none⟩
  | _=>gen0 P L o s
 | .indexAddr T x y=>
  match s.ev x,s.ev y with
  | some a,some i=>
   match C.ix T a i with
   | some (p,v)=>cond (flat i) (some ⟨some p,v,none,none,true,none⟩) none
   | none=>
    match addrL a,i with
    | some (b,off),.int _ z=>match P.underlying T with
     | some (.array len e)=>match sizeL P e with
      | some n=>cond (decide (0≤z) && decide (z < len)) (some ⟨none,.pointer (some ⟨b,off + z.toNat * n,none⟩),none,none,false,none⟩) none
      | none=>none
     | _=>none
    | _,_=>none
  | _,_=>none
 | .call c=>
  match callW C c with
  | some e=>match eva s c.args.toList with
   | some az=>match e.sp s.g s.m az with
    | some (p,v,g)=>cond (flat v && entersL P e.f) (some ⟨p,v,none,none,true,g⟩) none
    | none=>none
   | none=>none
  | none=>
  match sarg s c with
  | some (f,az,b,cs)=>match look L f with
   | some e=>match e.sr az cs with
    | some (p,v)=>cond (flat v && entersL P f) (some ⟨p,v,none,some b,false,none⟩) none
    | none=>none
   | none=>none
  | none=>gen0 P L o s
 | _=>gen0 P L o s
def eff(o:Oper)(s:St):Option Eff:=
 cond (fits o.dst s.n) (eff0 P L C o s) none
def St.win(s:St)(g:List Pe)(m:Nat→Option Row):St:=⟨s.n,s.k,s.t,fun q=>cond (isW q) (m q) (s.m q),g⟩
def big0(o:Oper)(s:St):Option (Option Prop × Value × List Pe × (Nat→Option Row)):=
 match o.op,o.guard with
 | .call c,none=>match callB C c with
  | some e=>match eva s c.args.toList with
   | some az=>match e.sp s.g s.m az with
    | some (p,v,g,m)=>cond (fits o.dst s.n && flat v && entersL P e.f) (some (p,v,g,m)) none
    | none=>none
   | none=>none
  | none=>none
 | _,_=>none
end
end Go.Proofs.YteimojoicfjdjaaGreat.Sx
namespace Go.Proofs.YteimojoicfjdjaaGreat.Sx
open Go.RowKit Pl
set_option linter.unusedVariables false
def ok1(m:Nat→Option Row):Value→Prop
 | .pointer (some a)=>(m a.block).isSome=true
 | .slice (some a) _ _=>(m a.block).isSome=true
 | _=>True
def okv(m:Nat→Option Row):Value→Prop
 | .agg cs=>∀ c ∈ cs.toList,ok1 m c
 | v=>ok1 m v
theorem ok1_flat{m:Nat→Option Row}{v:Value}(h:flat1 v=true):ok1 m v:=by
 unfold flat1 at h;unfold ok1;split <;> simp_all
theorem okv_flat{m:Nat→Option Row}{v:Value}(h:flat v=true):okv m v:=by
 unfold flat at h
 split at h
 ·exact fun c hc=>ok1_flat (List.all_eq_true.1 h c hc)
 ·have:okv m v=ok1 m v:=by unfold okv;split <;> simp_all
  rw [this];exact ok1_flat h
theorem ok1_mono{m m':Nat→Option Row}(h:∀ b,(m b).isSome=true→(m' b).isSome=true){v:Value}(k:ok1 m v):ok1 m' v:=by
 unfold ok1 at *;split <;> simp_all
theorem okv_mono{m m':Nat→Option Row}(h:∀ b,(m b).isSome=true→(m' b).isSome=true){v:Value}(k:okv m v):okv m' v:=by
 unfold okv at *
 split
 ·exact fun c hc=>ok1_mono h (k c hc)
 ·split at k
  ·simp_all
  ·exact ok1_mono h k
theorem okv_cells{m:Nat→Option Row}{v:Value}(k:okv m v):∀ c ∈ v.cells.toList,ok1 m c:=by
 unfold okv at k
 split at k
 ·exact k
 ·rename_i hn
  intro c hc
  have:v.cells=#[v]:=by unfold Value.cells;split <;> simp_all
  rw [this] at hc
  simp at hc;subst hc;exact k
theorem cells_ren(r:Nat→Nat × Nat)(v:Value):(ren r v).cells=(v.cells.toList.map (ren1 r)).toArray:=by
 unfold ren
 split
 ·rfl
 ·rename_i hn
  have h1:v.cells=#[v]:=by unfold Value.cells;split <;> simp_all
  have h2:(ren1 r v).cells=#[ren1 r v]:=by unfold ren1;split <;> first | rfl | exact h1
  rw [h1,h2];rfl
theorem ren1_upd{r r':Nat→Nat × Nat}{m:Nat→Option Row}(h:∀ b,(m b).isSome=true→r' b=r b){v:Value}(k:ok1 m v):ren1 r' v=ren1 r v:=by
 unfold ok1 at k
 unfold ren1
 split <;> simp_all
theorem map_upd{r r':Nat→Nat × Nat}{m:Nat→Option Row}(h:∀ b,(m b).isSome=true→r' b=r b){cs:List Value}(k:∀ c ∈ cs,ok1 m c):cs.map (ren1 r')=cs.map (ren1 r):=
 List.map_congr_left fun c hc=>ren1_upd h (k c hc)
theorem ren_upd{r r':Nat→Nat × Nat}{m:Nat→Option Row}(h:∀ b,(m b).isSome=true→r' b=r b){v:Value}(k:okv m v):ren r' v=ren r v:=by
 unfold okv at k
 split at k
 ·show Value.agg _=Value.agg _
  rw [map_upd h k]
 ·rename_i hn
  have h1:∀ q,ren q v=ren1 q v:=fun q=>by unfold ren;split <;> simp_all
  rw [h1,h1,ren1_upd h k]
theorem oneCell_ren1(r:Nat→Nat × Nat)(v:Value):(ren1 r v).oneCell'=v.oneCell':=by
 unfold ren1;split <;> rfl
theorem ren1_win{r W:Nat→Nat × Nat}(h:∀ q,isW q=true→r q=W q){v:Value}(k:fw1 v=true):ren1 r v=ren1 W v:=by
 unfold fw1 at k
 unfold ren1
 split <;> simp_all
theorem ren_win{r W:Nat→Nat × Nat}(h:∀ q,isW q=true→r q=W q){v:Value}(k:fw v=true):ren r v=ren W v:=by
 unfold fw at k
 split at k
 ·rename_i cs
  show Value.agg _=Value.agg _
  congr 2
  exact List.map_congr_left fun c hc=>ren1_win h (List.all_eq_true.1 k c hc)
 ·rename_i hn
  have h1:∀ q,ren q v=ren1 q v:=fun q=>by unfold ren;split <;> simp_all
  rw [h1,h1,ren1_win h k]
theorem rw_w{q:Nat}(h:isRW q=true):isW q=true:=by
 unfold isRW at h;unfold isW
 have:=Nat.le_of_ble_eq_true h
 exact Nat.ble_eq_true_of_le (by omega)
structure Kept(n:Nat)(w w':World):Prop where
 size:w.heap.size≤w'.heap.size
 block:∀ k,n≤k→k < w.heap.size→w'.heap[k]? = w.heap[k]?
structure Wd0 where
 n0:Nat
 W:Nat→Nat × Nat
 J:List Pe→(Nat→Option Row)→World→Prop
 ext:∀ γ m m' w,(∀ q,isW q=true→m' q=m q)→J γ m w→J γ m' w
 below:∀ γ m w w',n0≤w.heap.size→Below n0 w w'→J γ m w→J γ m w'
 cell:∀ γ m w q cs T,J γ m w→isW q=true→m q=some (cs,T)→(W q).1 < n0∧(∀ c ∈ cs,fw1 c=true∧ok1 m c)∧∀ j v,cs[j]? = some v→w.cell? ⟨(W q).1,(W q).2 + j,none⟩=some (ren1 W v)
 write:∀ γ m w q cs T j u v,J γ m w→isRW q=true→m q=some (cs,T)→cs[j]? = some u→sameK u v=true →
  w.frozen? ⟨(W q).1,(W q).2 + j,none⟩=false∧J γ (fun x=>cond (Nat.beq x q) (some (cs.set j v,T)) (m x)) (w.setCell ⟨(W q).1,(W q).2 + j,none⟩ v)
structure Wd where
 n0:Nat
 W:Nat→Nat × Nat
 J:List Pe→(Nat→Option Row)→World→Prop
 A:World→Nat→Prop
 K:World→World→Prop
 ext:∀ γ m m' w,(∀ q,isW q=true→m' q=m q)→J γ m w→J γ m' w
 below:∀ γ m w w',n0≤w.heap.size→Below w.heap.size w w'→J γ m w→J γ m w'
 own:∀ γ m w k x,n0≤w.heap.size→A w k→J γ m w→J γ m (w.setRow k x)
 cell:∀ γ m w q cs T,J γ m w→isW q=true→m q=some (cs,T)→(W q).1 < n0∧(∀ c ∈ cs,fw1 c=true∧ok1 m c)∧∀ j v,cs[j]? = some v→w.cell? ⟨(W q).1,(W q).2 + j,none⟩=some (ren1 W v)
 write:∀ γ m w q cs T j u v,J γ m w→isRW q=true→m q=some (cs,T)→cs[j]? = some u→sameK u v=true →
  w.frozen? ⟨(W q).1,(W q).2 + j,none⟩=false∧J γ (fun x=>cond (Nat.beq x q) (some (cs.set j v,T)) (m x)) (w.setCell ⟨(W q).1,(W q).2 + j,none⟩ v)
 aW:∀ γ m w q cs T k,J γ m w→isW q=true→m q=some (cs,T)→A w k→k ≠ (W q).1
 aNew:∀ γ m w o,n0≤w.heap.size→J γ m w→A (w.alloc o) w.heap.size
 aBelow:∀ w w' k,n0≤w.heap.size→Below w.heap.size w w'→k < w.heap.size→A w k→A w' k
 aRow:∀ w k x j,A w k→A w j→A (w.setRow k x) j
 aCell:∀ γ m w q cs T j u v k,J γ m w→isRW q=true→m q=some (cs,T)→cs[j]? = some u→sameK u v=true→A w k→A (w.setCell ⟨(W q).1,(W q).2 + j,none⟩ v) k
 kK:∀ w w',K w w'→w.heap.size≤w'.heap.size∧∀ k,k < w.heap.size→A w k→w'.heap[k]? = w.heap[k]?∧A w' k
def Wd0.wd(D:Wd0):Wd where
 n0:=D.n0
 W:=D.W
 J:=D.J
 A:=fun _ k=>D.n0≤k
 K:=Kept D.n0
 ext:=D.ext
 below:=fun γ m w w' hn hb h=>D.below γ m w w' hn (hb.mono hn) h
 own:=fun γ m w k x hn hk h=>D.below γ m w _ hn ⟨rfl,rfl,rfl,by simp,fun j hj=>setRow_other _ _ _ _ (by omega)⟩ h
 cell:=D.cell
 write:=D.write
 aW:=fun γ m w q cs T k h hq hm hk=>by have:=(D.cell γ m w q cs T h hq hm).1;omega
 aNew:=fun γ m w o hn h=>hn
 aBelow:=fun w w' k hn hb hk h=>h
 aRow:=fun w k x j h h'=>h'
 aCell:=fun γ m w q cs T j u v k _ _ _ _ _ h=>h
 kK:=fun w w' h=>⟨h.size,fun k hk ha=>⟨h.block k ha hk,ha⟩⟩
structure Rel(D:Wd)(r:Nat→Nat × Nat)(s:St)(a:Act)(w:World):Prop where
 defers:a.defers = []
 size:a.tmps.size=s.n
 tmp:∀ i v,s.t i=some v→a.tmps[i]? = some (ren r v)
 tok:∀ i v,s.t i=some v→okv s.m v
 fix:∀ q,isF q=true→r q=D.W q
 row:∀ b cs T,isW b=false→s.m b=some (cs,T)→cs ≠ []→w.heap[(r b).1]? = some (.cells (cs.map (ren1 r)).toArray T (0,0))
 own:∀ b c,isW b=false→s.m b=some c→D.A w (r b).1∧(r b).2=0
 lt:∀ b c,isW b=false→s.m b=some c→(r b).1 < w.heap.size
 rok:∀ b cs T,s.m b=some (cs,T)→∀ c ∈ cs,ok1 s.m c
 inj:∀ b c x y,isW b=false→isW c=false→s.m b=some x→s.m c=some y→(r b).1=(r c).1→b=c
 big:D.n0≤w.heap.size
 inv:D.J s.g s.m w
section
variable {D:Wd} {r:Nat→Nat × Nat} {s:St} {a:Act} {w:World}
theorem Rel.win(h:Rel D r s a w):∀ q,isW q=true→r q=D.W q:=fun q hq=>h.fix q (isF_of hq)
theorem Rel.ev(h:Rel D r s a w){x:Operand}{v:Value}(hx:s.ev x=some v):a.eval x=ren r v∧okv s.m v:=by
 cases x with
 | tmp t=>
  have h1:=h.tmp t v hx
  exact ⟨by simp [Act.eval,h1],h.tok t v hx⟩
 | const c=>
  simp only [St.ev] at hx
  cases hc:flat c <;> simp [hc] at hx
  subst hx
  exact ⟨(ren_flat hc).symm,okv_flat hc⟩
 | global g=>simp [St.ev] at hx
 | func f=>simp [St.ev] at hx;subst hx;exact ⟨rfl,trivial⟩
theorem Rel.size_lt(h:Rel D r s a w){b:Nat}{c:Row}(hw:isW b=false)(hb:s.m b=some c):(r b).1 < w.heap.size:=by
 exact h.lt b c hw hb
theorem Rel.cellAt(h:Rel D r s a w){b:Nat}{cs:List Value}{T:TypeId}(hb:s.m b=some (cs,T)){j:Nat}{v:Value}(hv:cs[j]? = some v):w.cell? ⟨(r b).1,(r b).2 + j,none⟩=some (ren1 r v):=by
 cases hw:isW b
 ·have hrow:=h.row b cs T hw hb (fun e=>by subst e;simp at hv)
  rw [(h.own b _ hw hb).2,Nat.zero_add,cell_of_row w (r b).1 j _ T (0,0) hrow]
  simp [hv]
 ·obtain ⟨_,h2,h3⟩:=D.cell _ _ _ _ _ _ h.inv hw hb
  rw [h.win b hw,h3 j v hv,ren1_win h.win (h2 v (List.mem_of_getElem? hv)).1]
theorem Rel.put(h:Rel D r s a w)(d:Option Nat)(v:Value)(hd:fits d s.n=true)(hv:okv s.m v):Rel D r (s.put d v) (a.put d (ren r v)) w:=by
 cases d with
 | none=>exact h
 | some d=>
  have hlt:d < s.n:=by simpa [fits,Nat.blt_eq] using hd
  refine ⟨h.defers,by simpa [Act.put,St.put] using h.size,fun i u hu=>?_,fun i u hu=>?_,h.fix,h.row,h.own,h.lt,h.rok,h.inj,h.big,h.inv⟩
  ·simp only [St.put] at hu
   simp only [Act.put]
   cases e:Nat.beq i d
   ·rw [e] at hu
    have hne:d ≠ i:=fun q=>by subst q;simp [Nat.beq_refl] at e
    rw [Array.getElem?_setIfInBounds_ne hne]
    exact h.tmp i u hu
   ·rw [e] at hu
    have:=Nat.eq_of_beq_eq_true e
    subst this
    simp only [cond_true,Option.some.injEq] at hu
    subst hu
    rw [Array.getElem?_setIfInBounds_self_of_lt (by rw [h.size];exact hlt)]
  ·simp only [St.put] at hu
   cases e:Nat.beq i d <;> rw [e] at hu
   ·exact h.tok i u hu
   ·simp only [cond_true,Option.some.injEq] at hu
    subst hu
    exact hv
theorem Rel.world(h:Rel D r s a w){w':World}(hb:Below w.heap.size w w'):Rel D r s a w':=
 ⟨h.defers,h.size,h.tmp,h.tok,h.fix,fun b cs T hw hm hn=>by rw [hb.block (r b).1 (h.size_lt hw hm)];exact h.row b cs T hw hm hn,fun b c hw hm=>⟨D.aBelow _ _ _ h.big hb (h.size_lt hw hm) (h.own b c hw hm).1,(h.own b c hw hm).2⟩,fun b c hw hm=>Nat.lt_of_lt_of_le (h.lt b c hw hm) hb.size,h.rok,h.inj,Nat.le_trans h.big hb.size,D.below _ _ _ _ h.big hb h.inv⟩
theorem Rel.gone(h:Rel D r s a w){w':World}(g:Option (List Pe))(hK:D.K w w')(hJ:D.J (g.getD s.g) s.m w'):Rel D r (s.gh g) a w':=by
 obtain ⟨hks,hk⟩:=D.kK _ _ hK
 have hrow:∀ b cs T,isW b=false→s.m b=some (cs,T)→cs ≠ []→w'.heap[(r b).1]? = some (.cells (cs.map (ren1 r)).toArray T (0,0)):=fun b cs T hw hm hn=>by
  rw [(hk _ (h.size_lt hw hm) (h.own b _ hw hm).1).1];exact h.row b cs T hw hm hn
 have hown:∀ b c,isW b=false→s.m b=some c→D.A w' (r b).1∧(r b).2=0:=fun b c hw hm=>⟨(hk _ (h.size_lt hw hm) (h.own b c hw hm).1).2,(h.own b c hw hm).2⟩
 have hlt:∀ b c,isW b=false→s.m b=some c→(r b).1 < w'.heap.size:=fun b c hw hm=>Nat.lt_of_lt_of_le (h.lt b c hw hm) hks
 cases g with
 | none=>exact ⟨h.defers,h.size,h.tmp,h.tok,h.fix,hrow,hown,hlt,h.rok,h.inj,Nat.le_trans h.big hks,hJ⟩
 | some g=>exact ⟨h.defers,h.size,h.tmp,h.tok,h.fix,hrow,hown,hlt,h.rok,h.inj,Nat.le_trans h.big hks,hJ⟩
theorem Rel.new(h:Rel D r s a w){q:Nat}(hfq:isF q=false)(hq:s.m q=none)(cs:List Value)(T:TypeId)(hc:∀ c ∈ cs,ok1 s.m c) :
  ∃ r',r' q=(w.heap.size,0)∧(∀ b,(s.m b).isSome=true→r' b=r b)∧Rel D r' (s.row (some (q,cs,T))) a (w.alloc (.cells (cs.map (ren1 r)).toArray T)):=by
 have hwq:=isW_not hfq
 have hr:∀ b,(s.m b).isSome=true→(fun b=>if b=q then (w.heap.size,0) else r b) b=r b:=fun b hb=>by
  have:b ≠ q:=fun e=>by subst e;simp [hq] at hb
  simp [this]
 refine ⟨fun b=>if b=q then (w.heap.size,0) else r b,by simp,hr,?_⟩
 have hm:∀ b,(s.m b).isSome=true→((s.row (some (q,cs,T))).m b).isSome=true:=fun b hb=>by
  simp only [St.row];cases Nat.beq b q <;> simp_all
 refine ⟨h.defers,h.size,fun i v hv=>?_,fun i v hv=>okv_mono hm (h.tok i v hv),fun b hb=>?_,fun b cs' T' hw hb hn=>?_,fun b c hw hb=>?_,fun b c hw hb=>?_,fun b cs' T' hb=>?_,fun b c x y hwb hwc hb hc' e=>?_,?_,?_⟩
 ·rw [ren_upd hr (h.tok i v hv)];exact h.tmp i v hv
 ·have hne:b ≠ q:=fun e=>by subst e;rw [hfq] at hb;cases hb
  simp only [if_neg hne];exact h.fix b hb
 ·simp only [St.row] at hb
  cases e:Nat.beq b q <;> rw [e] at hb
  ·have hne:b ≠ q:=fun e'=>by subst e';simp [Nat.beq_refl] at e
   simp only [cond_false] at hb
   have h1:=h.row b cs' T' hw hb hn
   have h2:=h.rok b cs' T' hb
   rw [map_upd hr h2]
   simp only [if_neg hne]
   rw [Below.heap_alloc _ _ _ (h.size_lt hw hb)]
   exact h1
  ·have:=Nat.eq_of_beq_eq_true e
   subst this
   simp only [cond_true,Option.some.injEq,Prod.mk.injEq] at hb
   obtain ⟨rfl,rfl⟩:=hb
   rw [map_upd hr hc]
   simp only [if_true]
   exact heap_alloc_new _ _
 ·simp only [St.row] at hb
  cases e:Nat.beq b q <;> rw [e] at hb
  ·have hne:b ≠ q:=fun e'=>by subst e';simp [Nat.beq_refl] at e
   simp only [if_neg hne];exact ⟨D.aBelow _ _ _ h.big ((Below.refl _ _).alloc (Nat.le_refl _) _) (h.size_lt hw hb) (h.own b c hw hb).1,(h.own b c hw hb).2⟩
  ·have:=Nat.eq_of_beq_eq_true e
   subst this
   simp only [if_true];exact ⟨D.aNew _ _ _ _ h.big h.inv,trivial⟩
 ·simp only [St.row] at hb
  cases e:Nat.beq b q <;> rw [e] at hb
  ·have hne:b ≠ q:=fun e'=>by subst e';simp [Nat.beq_refl] at e
   simp only [if_neg hne];have:=h.lt b c hw hb;simp;omega
  ·have:=Nat.eq_of_beq_eq_true e
   subst this
   simp
 ·intro c hc'
  simp only [St.row] at hb
  cases e:Nat.beq b q <;> rw [e] at hb
  ·exact ok1_mono hm (h.rok b cs' T' hb c hc')
  ·simp only [cond_true,Option.some.injEq,Prod.mk.injEq] at hb
   obtain ⟨rfl,rfl⟩:=hb
   exact ok1_mono hm (hc c hc')
 ·simp only [St.row] at hb hc'
  by_cases e1:b=q <;> by_cases e2:c=q
  ·rw [e1,e2]
  ·have f2:Nat.beq c q=false:=by cases f:Nat.beq c q;rfl;exact absurd (Nat.eq_of_beq_eq_true f) e2
   rw [f2] at hc'
   simp only [e1,if_true,if_neg e2] at e
   have:=h.size_lt hwc hc'
   omega
  ·have f1:Nat.beq b q=false:=by cases f:Nat.beq b q;rfl;exact absurd (Nat.eq_of_beq_eq_true f) e1
   rw [f1] at hb
   simp only [e2,if_true,if_neg e1] at e
   have:=h.size_lt hwb hb
   omega
  ·have f1:Nat.beq b q=false:=by cases f:Nat.beq b q;rfl;exact absurd (Nat.eq_of_beq_eq_true f) e1
   have f2:Nat.beq c q=false:=by cases f:Nat.beq c q;rfl;exact absurd (Nat.eq_of_beq_eq_true f) e2
   rw [f1] at hb
   rw [f2] at hc'
   simp only [if_neg e1,if_neg e2] at e
   exact h.inj b c x y hwb hwc hb hc' e
 ·have:=h.big;simp;omega
 ·refine D.ext _ s.m _ _ (fun x hx=>?_) (D.below _ _ _ _ h.big ((Below.refl _ _).alloc (Nat.le_refl _) _) h.inv)
  simp only [St.row]
  have:Nat.beq x q=false:=by
   cases f:Nat.beq x q
   ·rfl
   ·have:=Nat.eq_of_beq_eq_true f;subst this;rw [hwq] at hx;cases hx
  rw [this];rfl
theorem Rel.write(h:Rel D r s a w){b:Nat}{old cs:List Value}{T:TypeId}(hw:isW b=false)(hb:s.m b=some (old,T))(hold:old ≠ [])(hc:∀ c ∈ cs,ok1 s.m c) :
  Rel D r (s.row (some (b,cs,T))) a (w.setRow (r b).1 (cs.map (ren1 r)).toArray):=by
 have hm:∀ b',(s.m b').isSome=true→((s.row (some (b,cs,T))).m b').isSome=true:=fun b' hb'=>by
  simp only [St.row];cases Nat.beq b' b <;> simp_all
 have some_of:∀ b' x,(s.row (some (b,cs,T))).m b'=some x→∃ y,s.m b'=some y:=fun b' x hx=>by
  simp only [St.row] at hx
  cases e:Nat.beq b' b <;> rw [e] at hx
  ·exact ⟨_,hx⟩
  ·exact ⟨_,by rw [Nat.eq_of_beq_eq_true e];exact hb⟩
 refine ⟨h.defers,h.size,h.tmp,fun i v hv=>okv_mono hm (h.tok i v hv),h.fix,fun b' cs' T' hw' hb' hn=>?_,fun b' c hw' hb'=>?_,fun b' c hw' hb'=>?_,fun b' cs' T' hb'=>?_,fun b' c x y hwb hwc hb' hc' e=>?_,by simpa using h.big,?_⟩
 ·simp only [St.row] at hb'
  cases e:Nat.beq b' b <;> rw [e] at hb'
  ·have hne:b' ≠ b:=fun e'=>by subst e';simp [Nat.beq_refl] at e
   simp only [cond_false] at hb'
   rw [setRow_other _ _ _ _ (fun e'=>hne (h.inj _ _ _ _ hw' hw hb' hb e'))]
   exact h.row b' cs' T' hw' hb' hn
  ·have:=Nat.eq_of_beq_eq_true e
   subst this
   simp only [cond_true,Option.some.injEq,Prod.mk.injEq] at hb'
   obtain ⟨rfl,rfl⟩:=hb'
   exact setRow_heap _ _ _ _ _ _ (h.row _ _ _ hw hb hold)
 ·obtain ⟨y,hy⟩:=some_of b' c hb'
  exact ⟨D.aRow _ _ _ _ (h.own b _ hw hb).1 (h.own b' y hw' hy).1,(h.own b' y hw' hy).2⟩
 ·obtain ⟨y,hy⟩:=some_of b' c hb'
  have:=h.lt b' y hw' hy
  simpa using this
 ·intro c hc'
  simp only [St.row] at hb'
  cases e:Nat.beq b' b <;> rw [e] at hb'
  ·exact ok1_mono hm (h.rok b' cs' T' hb' c hc')
  ·simp only [cond_true,Option.some.injEq,Prod.mk.injEq] at hb'
   obtain ⟨rfl,rfl⟩:=hb'
   exact ok1_mono hm (hc c hc')
 ·obtain ⟨x',hx'⟩:=some_of _ _ hb'
  obtain ⟨y',hy'⟩:=some_of _ _ hc'
  exact h.inj _ _ _ _ hwb hwc hx' hy' e
 ·have ho:=(h.own b _ hw hb).1
  refine D.ext _ s.m _ _ (fun x hx=>?_) (D.own _ _ _ _ _ h.big ho h.inv)
  simp only [St.row]
  have:Nat.beq x b=false:=by
   cases f:Nat.beq x b
   ·rfl
   ·have:=Nat.eq_of_beq_eq_true f;subst this;rw [hw] at hx;cases hx
  rw [this];rfl
theorem Rel.cell1(h:Rel D r s a w){b:Nat}{cs:List Value}{T:TypeId}{j:Nat}{u v:Value}(hrw:isRW b=true)(hb:s.m b=some (cs,T))(hu:cs[j]? = some u)(hk:sameK u v=true)(hv:flat1 v=true) :
  w.frozen? ⟨(r b).1,(r b).2 + j,none⟩=false∧Rel D r (s.row (some (b,cs.set j v,T))) a (w.setCell ⟨(r b).1,(r b).2 + j,none⟩ v):=by
 have hw:isW b=true:=rw_w hrw
 obtain ⟨h1,h2⟩:=D.write _ _ _ _ _ _ _ _ v h.inv hrw hb hu hk
 obtain ⟨h3,_,_⟩:=D.cell _ _ _ _ _ _ h.inv hw hb
 rw [h.win b hw]
 refine ⟨h1,?_⟩
 have hm:∀ b',(s.m b').isSome=true→((s.row (some (b,cs.set j v,T))).m b').isSome=true:=fun b' hb'=>by
  simp only [St.row];cases Nat.beq b' b <;> simp_all
 have hne:∀ b',isW b'=false→Nat.beq b' b=false:=fun b' hb'=>by
  cases f:Nat.beq b' b
  ·rfl
  ·have:=Nat.eq_of_beq_eq_true f;subst this;rw [hw] at hb';cases hb'
 have hown:∀ b' x,isW b'=false→(s.row (some (b,cs.set j v,T))).m b'=some x→s.m b'=some x:=fun b' x hb' hx=>by
  simp only [St.row,hne b' hb',cond_false] at hx;exact hx
 refine ⟨h.defers,h.size,h.tmp,fun i v hv=>okv_mono hm (h.tok i v hv),h.fix,fun b' cs' T' hw' hb' hn=>?_,fun b' c hw' hb'=>⟨D.aCell _ _ _ _ _ _ _ _ _ _ h.inv hrw hb hu hk (h.own b' c hw' (hown b' c hw' hb')).1,(h.own b' c hw' (hown b' c hw' hb')).2⟩,fun b' c hw' hb'=>by have:=h.lt b' c hw' (hown b' c hw' hb');simpa using this,fun b' cs' T' hb'=>?_,fun b' c x y hwb hwc hb' hc' e=>h.inj _ _ _ _ hwb hwc (hown _ _ hwb hb') (hown _ _ hwc hc') e,by simpa using h.big,h2⟩
 ·have hb'':=hown b' _ hw' hb'
  have ho:=(h.own b' _ hw' hb'').1
  rw [heap_setCell_other _ _ _ _ (D.aW _ _ _ _ _ _ _ h.inv hw hb ho)]
  exact h.row b' cs' T' hw' hb'' hn
 ·intro c hc'
  simp only [St.row] at hb'
  cases e:Nat.beq b' b <;> rw [e] at hb'
  ·exact ok1_mono hm (h.rok b' cs' T' hb' c hc')
  ·simp only [cond_true,Option.some.injEq,Prod.mk.injEq] at hb'
   obtain ⟨rfl,rfl⟩:=hb'
   rcases List.mem_or_eq_of_mem_set hc' with hc' | rfl
   ·exact ok1_mono hm (h.rok b cs T hb c hc')
   ·exact ok1_flat hv
end
end Go.Proofs.YteimojoicfjdjaaGreat.Sx
