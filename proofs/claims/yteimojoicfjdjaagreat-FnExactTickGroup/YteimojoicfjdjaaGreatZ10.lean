/- Parts of the proof: SxE. -/
import Derived.Test.YteimojoicfjdjaaGreatZ9
namespace Go.Proofs.YteimojoicfjdjaaGreat.Sx
open Go.RowKit Pl
set_option linter.unusedSimpArgs false
set_option linter.unusedVariables false
def gslot(ops:Array Oper)(o:Oper):Option (Nat × Bool):=
 match o.guard with
 | none=>none
 | some (j,want)=>((ops[j]?).bind (·.dst)).map fun t=>(t,want)
def gdv(ops:Array Oper)(o:Oper)(s:St):Option Bool:=
 match o.guard with
 | none=>some true
 | some (j,want)=>match (ops[j]?).bind (·.dst) with
  | none=>none
  | some t=>match s.t t with
   | some (.bool b)=>some (cond want b (!b))
   | some (.tuple _)=>some false
   | _=>none
def none':Eff:=⟨none,undef,none,none,false,none⟩
structure It where
 i:Nat
 d:Option Nat
 e:Eff
def St.step(s:St)(x:It):St:=s.app x.d x.e
section
variable (P:Program) (L:List (Ent P)) (C:Cf) (ops:Array Oper)
def Good(s:St)(x:It):Prop:=∃ o,ops[x.i]? = some o∧x.d=o.dst∧fits o.dst s.n=true ∧
 ((gdv ops o s=some false∧x.e=none') ∨ (gdv ops o s=some true∧eff P L C o s=some x.e∧∀ q,x.e.p=some q→q))
def looks(i:Nat):List Nat:=match ops[i]? with | some o=>o.looksAt ops | none=>[]
end
section
variable {P:Program} {L:List (Ent P)} {C:Cf} {D:Wd} {ops:Array Oper} {r:Nat→Nat × Nat} {s:St} {a:Act} {w:World}
theorem wanted_of(h:Rel D r s a w){o:Oper}{b:Bool}(hg:gdv ops o s=some b):Region.wanted o (yielded ops a.tmps)=b:=by
 unfold gdv at hg
 unfold Region.wanted
 cases hq:o.guard with
 | none=>simp [hq] at hg;simp [hg]
 | some jw=>
  obtain ⟨j,want⟩:=jw
  simp only [hq] at hg
  cases ht:(ops[j]?).bind (·.dst) with
  | none=>simp [ht] at hg
  | some t=>
   simp only [ht] at hg
   cases hv:s.t t with
   | none=>simp [hv] at hg
   | some v=>
    have h1:=h.tmp t _ hv
    cases v <;> simp only [hv,reduceCtorEq,Option.some.injEq] at hg
    case bool c=>
     have hy:yielded ops a.tmps j=some c:=by simp [yielded,ht,h1,ren,ren1]
     simp only [hy]
     subst hg
     cases c <;> cases want <;> rfl
    case tuple c=>
     have hy:yielded ops a.tmps j=none:=by simp [yielded,ht,h1,ren,ren1]
     simp only [hy]
     subst hg
     rfl
theorem op_step(hC:WOk P D C)(h:Rel D r s a w){x:It}(hx:Good P L C ops s x){K:Act→World→Prop}{Q:Exit→Act→World→Prop}
  (hK:∀ r' a' w',Rel D r' (s.step x) a' w'→K a' w'):wpOp P ops Q x.i K a w:=by
 obtain ⟨o,ho,hd,hf,hc⟩:=hx
 unfold wpOp
 simp only [ho]
 rcases hc with ⟨hg,he⟩ | ⟨hg,he,hp⟩
 ·rw [wanted_of h hg]
  simp only [Bool.false_eq_true,if_false]
  refine hK r _ _ ?_
  unfold St.step
  rw [he,hd]
  exact h.put o.dst undef hf trivial
 ·rw [wanted_of h hg]
  simp only [if_true]
  refine .inl (op_ok hC h he hp fun r' a' w' hR=>hK r' a' w' ?_)
  unfold St.step
  rw [hd]
  exact hR
structure Ag(A B:Nat→Prop)(G:Prop)(s s':St):Prop where
 n:s'.n=s.n
 k:s'.k=s.k
 t:∀ i,A i→s'.t i=s.t i
 m:∀ q,B q→s'.m q=s.m q
 g:G→s'.g=s.g∧∀ q,isW q=true→s'.m q=s.m q
def rowsOf(e:Eff)(q:Nat):Prop:=e.c=some q ∨ ∃ c,e.b=some (q,c)
theorem ev_ag{o:Oper}{A B:Nat→Prop}{G:Prop}{s s':St}(h:Ag A B G s s')(hA:∀ t,t ∈ o.looksAt ops→A t){x:Operand}(hx:x ∈ o.op.operands):s'.ev x=s.ev x:=by
 cases x with
 | tmp t=>exact h.t t (hA t (List.mem_append_left _ (List.mem_filterMap.2 ⟨.tmp t,by simpa using hx,rfl⟩)))
 | _=>rfl
theorem gdv_ag{o:Oper}{A B:Nat→Prop}{G:Prop}{s s':St}(h:Ag A B G s s')(hA:∀ t,t ∈ o.looksAt ops→A t):gdv ops o s'=gdv ops o s:=by
 unfold gdv
 cases hq:o.guard with
 | none=>rfl
 | some jw=>
  obtain ⟨j,want⟩:=jw
  simp only []
  cases ht:(ops[j]?).bind (·.dst) with
  | none=>rfl
  | some t=>
   simp only []
   rw [h.t t (hA t (List.mem_append_right _ (by simp [hq,ht])))]
theorem newL_ag{A B:Nat→Prop}{G:Prop}{s s':St}(h:Ag A B G s s'){d:Option Nat}{T:TypeId}{cs:List Value}{e:Eff}(he:newL s d T cs=some e)(hB:∀ q,rowsOf e q→B q):newL s' d T cs=some e:=by
 obtain ⟨q,hwq,hq,rfl⟩:=newL_some he
 unfold newL at he ⊢
 cases d with
 | none=>simp at he
 | some d=>
  simp only [] at he ⊢
  have hname:name s' d=name s d:=by unfold name name0;rw [h.k]
  cases hm:s.m (name s d) <;> rw [hm] at he <;> simp only [reduceCtorEq] at he
  cases hw:isF (name s d) <;> rw [hw] at he <;> simp only [cond_true,cond_false,reduceCtorEq] at he
  have e1:name s d=q:=by simpa using he
  rw [hname,e1,h.m q (hB q (.inr ⟨_,rfl⟩)),hq,hwq];rfl
theorem newS_ag{A B:Nat→Prop}{G:Prop}{s s':St}(h:Ag A B G s s'){d:Option Nat}{n:Nat}{T:TypeId}{cs:List Value}{e:Eff}(he:newS s d n T cs=some e)(hB:∀ q,rowsOf e q→B q):newS s' d n T cs=some e:=by
 obtain ⟨q,hwq,hq,rfl⟩:=newS_some he
 unfold newS at he ⊢
 cases d with
 | none=>simp at he
 | some d=>
  simp only [] at he ⊢
  have hname:name0 s' d=name0 s d:=by unfold name0;rw [h.k]
  cases hm:s.m (name0 s d) <;> rw [hm] at he <;> simp only [reduceCtorEq] at he
  cases hw:isF (name0 s d) <;> rw [hw] at he <;> simp only [cond_true,cond_false,reduceCtorEq] at he
  have e1:name0 s d=q:=by simpa using he
  rw [hname,e1,h.m q (hB q (.inr ⟨_,rfl⟩)),hq,hwq];rfl
theorem eff_ag{o:Oper}{A B:Nat→Prop}{G:Prop}{s s':St}(hC:WOk P D C)(h:Ag A B G s s')(hA:∀ t,t ∈ o.looksAt ops→A t){e:Eff}(he:eff P L C o s=some e)(hB:∀ q,rowsOf e q→B q)(hG:e.j=true→G):eff P L C o s'=some e:=by
 unfold eff at he ⊢
 rw [h.n]
 cases hd:fits o.dst s.n <;> rw [hd] at he <;> simp only [cond_false,cond_true,reduceCtorEq] at he ⊢
 have hev:∀ x,x ∈ o.op.operands→s'.ev x=s.ev x:=fun x hx=>ev_ag h hA hx
 have hgen:gen0 P L o s'=gen0 P L o s:=by
  unfold gen0
  have hk:knownFlat s' o.op=knownFlat s o.op:=by
   unfold knownFlat
   have:∀ l:List Operand,(∀ x ∈ l,s'.ev x=s.ev x)→(l.all fun x=>match s'.ev x with | some v=>flat v | none=>false)=(l.all fun x=>match s.ev x with | some v=>flat v | none=>false):=fun l=>by
    induction l with
    | nil=>intro _;rfl
    | cons x l ih=>intro hl;simp only [List.all_cons];rw [hl x (by simp),ih (fun y hy=>hl y (by simp [hy]))]
   exact this _ (fun x hx=>hev x (by simpa using hx))
  rw [hk]
  cases hn:notSelect o.op
  ·simp
  ·have hc:execOp (fun x=>(s'.ev x).getD undef) o=execOp (fun x=>(s.ev x).getD undef) o:=
    execOp_congr o (fun cs b hs=>by rw [hs] at hn;simp [notSelect] at hn) fun x hx=>by simp only [hev x hx]
   rw [hc]
 obtain ⟨dst,op,type,pos,after,guard⟩:=o
 cases op with
 | move x=>simp only [eff0] at he ⊢;rw [hev x (by simp [Op.operands])];exact he
 | assign x=>simp only [eff0] at he ⊢;rw [hev x (by simp [Op.operands])];exact he
 | box T x=>
  simp only [eff0] at he ⊢
  rw [hev x (by simp [Op.operands])]
  cases hv:s.ev x <;> rw [hv] at he <;> simp only [reduceCtorEq] at he ⊢
  exact newL_ag h he hB
 | alloc T=>
  simp only [eff0] at he ⊢
  cases hi:P.info? T <;> rw [hi] at he <;> simp only [reduceCtorEq] at he ⊢
  rename_i i
  cases hz:i.zero <;> rw [hz] at he <;> simp only [reduceCtorEq] at he ⊢
  rename_i z
  cases hf:flat z <;> rw [hf] at he <;> simp only [cond_false,cond_true,reduceCtorEq] at he ⊢
  exact newL_ag h he hB
 | load T x=>
  simp only [eff0] at he ⊢
  rw [hev x (by simp [Op.operands])]
  cases hv:s.ev x <;> rw [hv] at he <;> simp only [reduceCtorEq] at he ⊢
  rename_i v
  cases ha:addrL v <;> rw [ha] at he <;> simp only [reduceCtorEq] at he ⊢
  rename_i bo
  obtain ⟨b,off⟩:=bo
  simp only [] at he ⊢
  cases hm:s.m b <;> rw [hm] at he <;> simp only [reduceCtorEq] at he
  rename_i c
  have hc:e.c=some b:=by
   cases hl:loadL P T c.1 off <;> simp [hl] at he
   rw [← he]
  rw [h.m b (hB b (.inl hc)),hm]
  exact he
 | store T x y=>
  simp only [eff0] at he ⊢
  rw [hev x (by simp [Op.operands]),hev y (by simp [Op.operands])]
  cases hv:s.ev x <;> cases hy:s.ev y <;> simp only [hv,hy,reduceCtorEq] at he ⊢
  rename_i v u
  cases ha:addrL v <;> rw [ha] at he <;> simp only [reduceCtorEq] at he ⊢
  rename_i bo
  obtain ⟨b,off⟩:=bo
  simp only [] at he ⊢
  cases hm:s.m b <;> rw [hm] at he <;> simp only [reduceCtorEq] at he
  rename_i c
  have hc:e.c=some b:=by
   cases hz:sizeL P T <;> simp only [hz,reduceCtorEq] at he
   rename_i n
   cases hk:(Nat.beq u.cells.size n && Nat.ble (off + n) c.1.length && u.cells.toList.all (·.oneCell') && ((!isW b && (!c.1.isEmpty || u.cells.isEmpty)) || (isRW b && flat u && sameKs (c.1.drop off) u.cells.toList))) <;> rw [hk] at he <;> simp at he
   rw [← he]
  rw [h.m b (hB b (.inl hc)),hm]
  exact he
 | fieldAddr S x f=>simp only [eff0] at he ⊢;rw [hev x (by simp [Op.operands])];exact he
 | buildSlice T len parts=>
  simp only [eff0] at he ⊢
  have hp:∀ l:List (Nat × Operand),(∀ x ∈ l,s'.ev x.2=s.ev x.2)→evp s' l=evp s l:=fun l=>by
   induction l with
   | nil=>intro _;rfl
   | cons x l ih=>obtain ⟨i,x⟩:=x;intro hl;simp only [evp];rw [hl (i,x) (by simp),ih (fun y hy=>hl y (by simp [hy]))]
  rw [hp parts.toList (fun x hx=>hev x.2 (by simp only [Op.operands];simp;exact ⟨x.1,by simpa using hx⟩))]
  cases hu:P.underlying T with
  | none=>simp [hu] at he
  | some d=>
   cases d <;> simp only [hu,reduceCtorEq] at he ⊢
   rename_i e'
   cases hps:evp s parts.toList with
   | none=>simp [hps] at he
   | some ps=>
    simp only [hps] at he ⊢
    cases hb:builtL P e' len ps with
    | none=>simp [hb] at he
    | some cs=>
     simp only [hb] at he ⊢
     cases hf:cs.all flat1 <;> rw [hf] at he <;> simp only [cond_false,cond_true,reduceCtorEq] at he ⊢
     exact newS_ag h he hB
 | call c=>
  simp only [eff0] at he ⊢
  have hes:∀ l:List Operand,(∀ x ∈ l,s'.ev x=s.ev x)→evs s' l=evs s l:=fun l=>by
   induction l with
   | nil=>intro _;rfl
   | cons x l ih=>intro hl;simp only [evs];rw [hl x (by simp),ih (fun y hy=>hl y (by simp [hy]))]
  cases hcw:callW C c with
  | some e1=>
   simp only [hcw] at he ⊢
   have hea:∀ l:List Operand,(∀ x ∈ l,s'.ev x=s.ev x)→eva s' l=eva s l:=fun l=>by
    induction l with
    | nil=>intro _;rfl
    | cons x l ih=>intro hl;simp only [eva];rw [hl x (by simp),ih (fun y hy=>hl y (by simp [hy]))]
   have hcal:∃ f,c.callee=.value (.func f)∧lookW C.calls f=some e1:=by
    unfold callW at hcw
    cases hcal:c.callee <;> simp only [hcal,reduceCtorEq] at hcw
    rename_i cv
    cases cv <;> simp only [reduceCtorEq] at hcw
    exact ⟨_,rfl,hcw⟩
   obtain ⟨f,hcal,hlw⟩:=hcal
   have hopn:∀ y ∈ c.args.toList,y ∈ (Op.call c).operands:=fun y hy=>by
    simp only [Op.operands]
    simp [Call.operands,hcal]
    first | exact Array.mem_toList_iff.1 hy | (right;exact Array.mem_toList_iff.1 hy)
   rw [hea c.args.toList (fun y hy=>hev y (hopn y hy))]
   cases hev2:eva s c.args.toList with
   | none=>simp [hev2] at he
   | some az=>
    simp only [hev2] at he ⊢
    have hj:e.j=true:=by
     cases hsp:e1.sp s.g s.m az with
     | none=>simp [hsp] at he
     | some q=>
      obtain ⟨p,v,g⟩:=q
      simp only [hsp] at he
      cases hf:flat v && entersL P e1.f <;> rw [hf] at he <;> simp only [cond_false,cond_true,reduceCtorEq,Option.some.injEq] at he
      rw [← he]
    obtain ⟨g1,g2⟩:=h.g (hG hj)
    rw [g1,hC.ext f e1 hlw s.g s.m s'.m az g2]
    exact he
  | none=>
  simp only [hcw] at he ⊢
  cases hs:sarg s c with
  | none=>
   rw [hs] at he
   simp only [] at he
   have hs':sarg s' c=none:=by
    cases hq:sarg s' c with
    | none=>rfl
    | some q=>
     obtain ⟨f,az,b,cs⟩:=q
     obtain ⟨hcal,x,r,T,hr,hx,_,_,_,_⟩:=sarg_some hq
     have hmem:x ∈ (Op.call c).operands:=by
      have:x ∈ c.args.toList:=by
       have:x ∈ c.args.toList.reverse:=by rw [hr];simp
       simpa using this
      simp only [Op.operands]
      simp [Call.operands,hcal,this]
      first | done | (right;simpa using this)
     have hx':s.ev x=some (.slice (some ⟨b,0,none⟩) cs.length cs.length):=by rw [← hev x hmem];exact hx
     unfold gen0 at he
     cases hk:knownFlat s (Op.call c) with
     | false=>simp [hk] at he
     | true=>
      have:=List.all_eq_true.1 hk x (by simpa using hmem)
      simp [hx',flat,flat1] at this
   rw [hs']
   exact hgen.trans he
  | some q=>
   obtain ⟨f,az,b,cs⟩:=q
   obtain ⟨hcal,x,r,T,hr,hx,hm,has,hf,hwb,hne⟩:=sarg_some hs
   have hne':cs.isEmpty=false:=by cases cs with | nil=>exact absurd rfl hne | cons _ _=>rfl
   have hcB:e.c=some b:=by
    simp only [hs] at he
    cases hlk:look L f <;> simp only [hlk,reduceCtorEq] at he
    rename_i en
    cases hsr:en.sr az cs <;> simp only [hsr,reduceCtorEq] at he
    rename_i pv
    cases hk:flat pv.2 && entersL P f <;> rw [hk] at he <;> simp only [cond_false,cond_true,reduceCtorEq,Option.some.injEq] at he
    rw [← he]
   have hopn:∀ y ∈ c.args.toList,y ∈ (Op.call c).operands:=fun y hy=>by
    simp only [Op.operands]
    simp [Call.operands,hcal]
    first | exact Array.mem_toList_iff.1 hy | (right;exact Array.mem_toList_iff.1 hy)
   have hrev:c.args.toList=r.reverse ++ [x]:=by
    have:=congrArg List.reverse hr
    simpa using this
   have hs':sarg s' c=some (f,az,b,cs):=by
    unfold sarg
    simp only [hcal,hr]
    rw [hev x (hopn x (by rw [hrev];simp)),hx]
    simp only []
    rw [h.m b (hB b (.inl hcB)),hm]
    simp only []
    rw [hes r.reverse (fun y hy=>hev y (hopn y (by rw [hrev];simp only [List.mem_append];exact .inl hy))),has]
    simp only [hf,hwb,hne',Nat.beq_refl,Bool.and_self,Bool.not_false,cond_true]
   rw [hs']
   rw [hs] at he
   exact he
 | nilCheck x=>
  simp only [eff0] at he ⊢
  rw [hev x (by simp [Op.operands])]
  cases hv:s.ev x with
  | none=>rw [hv] at he;exact hgen.trans he
  | some v=>
   rw [hv] at he
   cases v with
   | pointer p=>cases p <;> first | exact hgen.trans he | exact he
   | _=>exact hgen.trans he
 | indexAddr T x y=>
  simp only [eff0] at he ⊢
  rw [hev x (by simp [Op.operands]),hev y (by simp [Op.operands])]
  exact he
 | _=>exact hgen.trans he
theorem good_ag{A B:Nat→Prop}{G:Prop}{s s':St}{x:It}(hC:WOk P D C)(h:Ag A B G s s')(hA:∀ t,t ∈ looks ops x.i→A t)(hB:∀ q,rowsOf x.e q→B q)(hG:x.e.j=true→G)(hx:Good P L C ops s x):Good P L C ops s' x:=by
 obtain ⟨o,ho,hd,hf,hc⟩:=hx
 have hA':∀ t,t ∈ o.looksAt ops→A t:=fun t ht=>hA t (by simpa [looks,ho] using ht)
 refine ⟨o,ho,hd,by rw [h.n];exact hf,?_⟩
 rw [gdv_ag h hA']
 rcases hc with hc | ⟨hg,he,hp⟩
 ·exact .inl hc
 ·exact .inr ⟨hg,eff_ag hC h hA' he hB hG,hp⟩
end
end Go.Proofs.YteimojoicfjdjaaGreat.Sx
