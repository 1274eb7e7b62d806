/- Parts of the proof: SxD. -/
import Derived.Test.YteimojoicfjdjaaGreatZ8
namespace Go.Proofs.YteimojoicfjdjaaGreat.Sx
open Go.RowKit Pl
set_option linter.unusedSimpArgs false
set_option linter.unusedVariables false
def St.app(s:St)(d:Option Nat)(e:Eff):St:=((s.row e.b).gh e.g).put d e.v
structure WOk(P:Program)(D:Wd)(C:Cf):Prop where
 calls:∀ f e,lookW C.calls f=some e→e.f=f∧∀ γ m az p v g,e.sp γ m az=some (p,v,g)→(∀ q,p=some q→q)→∀ w,D.n0≤w.heap.size→D.J γ m w →
  Calls P f (az.map (ren D.W)).toArray w fun e w'=>e=.returned v∧D.J (g.getD γ) m w'∧D.K w w'
 ext:∀ f e,lookW C.calls f=some e→∀ γ m m' az,(∀ q,isW q=true→m' q=m q)→e.sp γ m' az=e.sp γ m az
 ix:∀ T x i p v,C.ix T x i=some (p,v)→p→∀ γ m w,D.J γ m w→(Instr.indexAt T (ren D.W x) i).run P w=.ok (ren D.W v) w∧fw x=true∧fw v=true∧okv m v
 big:∀ f e,lookB C.big f=some e→e.f=f∧∀ γ m az p v g m',e.sp γ m az=some (p,v,g,m')→(∀ q,p=some q→q)→∀ w,D.n0≤w.heap.size→D.J γ m w →
  (∀ q,isW q=true→(m q).isSome=true→(m' q).isSome=true)∧Calls P f (az.map (ren D.W)).toArray w fun e w'=>e=.returned v∧D.J g m' w'∧D.K w w'
section
variable {P:Program} {L:List (Ent P)} {C:Cf} {D:Wd} {r:Nat→Nat × Nat} {s:St} {a:Act} {w:World}
theorem newL_some{d:Option Nat}{T:TypeId}{cs:List Value}{e:Eff}(h:newL s d T cs=some e) :
  ∃ q,isF q=false∧s.m q=none∧e=⟨none,.pointer (some ⟨q,0,none⟩),some (q,cs,T),none,false,none⟩:=by
 unfold newL at h
 cases d with
 | none=>simp at h
 | some d=>
  simp only [] at h
  cases hm:s.m (name s d) <;> rw [hm] at h <;> simp only [reduceCtorEq] at h
  cases hw:isF (name s d) <;> rw [hw] at h <;> simp at h
  exact ⟨_,hw,hm,h.symm⟩
theorem new_ok(h:Rel D r s a w){o:Oper}{T:TypeId}{cs:List Value}{e:Eff}(he:newL s o.dst T cs=some e)
  (hd:fits o.dst s.n=true) (hc:∀ c ∈ cs,ok1 s.m c) {K:Act→World→Prop}
  (hK:∀ r' a' w',Rel D r' (s.app o.dst e) a' w'→K a' w') :
  K (a.put o.dst (.pointer (some ⟨w.heap.size,0,none⟩))) (w.alloc (.cells (cs.map (ren1 r)).toArray T)):=by
 obtain ⟨q,hwq,hq,rfl⟩:=newL_some he
 obtain ⟨r',hr,_,hR⟩:=h.new hwq hq cs T hc
 refine hK r' _ _ ?_
 have:=hR.put o.dst (.pointer (some ⟨q,0,none⟩)) hd (by simp [okv,ok1,St.row,St.gh,Nat.beq_refl])
 simp only [ren,ren1,hr] at this
 exact this
theorem newS_some{d:Option Nat}{n:Nat}{T:TypeId}{cs:List Value}{e:Eff}(h:newS s d n T cs=some e) :
  ∃ q,isF q=false∧s.m q=none∧e=⟨none,.slice (some ⟨q,0,none⟩) n n,some (q,cs,T),none,false,none⟩:=by
 unfold newS at h
 cases d with
 | none=>simp at h
 | some d=>
  simp only [] at h
  cases hm:s.m (name0 s d) <;> rw [hm] at h <;> simp only [reduceCtorEq] at h
  cases hw:isF (name0 s d) <;> rw [hw] at h <;> simp at h
  exact ⟨_,hw,hm,h.symm⟩
theorem newS_ok(h:Rel D r s a w){o:Oper}{n:Nat}{T:TypeId}{cs:List Value}{e:Eff}(he:newS s o.dst n T cs=some e)
  (hd:fits o.dst s.n=true) (hc:∀ c ∈ cs,ok1 s.m c) {K:Act→World→Prop}
  (hK:∀ r' a' w',Rel D r' (s.app o.dst e) a' w'→K a' w') :
  K (a.put o.dst (.slice (some ⟨w.heap.size,0,none⟩) n n)) (w.alloc (.cells (cs.map (ren1 r)).toArray T)):=by
 obtain ⟨q,hwq,hq,rfl⟩:=newS_some he
 obtain ⟨r',hr,_,hR⟩:=h.new hwq hq cs T hc
 refine hK r' _ _ ?_
 have:=hR.put o.dst (.slice (some ⟨q,0,none⟩) n n) hd (by simp [okv,ok1,St.row,St.gh,Nat.beq_refl])
 simp only [ren,ren1,hr] at this
 exact this
theorem evs_eval(h:Rel D r s a w):∀ (l:List Operand) (vs:List Value),evs s l=some vs→l.map a.eval=vs
 | [],vs,he=>by simp only [evs,Option.some.injEq] at he;subst he;rfl
 | x :: l,vs,he=>by
  simp only [evs] at he
  cases hv:s.ev x with
  | none=>simp [hv] at he
  | some v=>
   simp only [hv] at he
   cases hf:flat v <;> rw [hf] at he <;> simp only [cond_false,cond_true,reduceCtorEq,Option.map_eq_some_iff] at he
   obtain ⟨us,hus,rfl⟩:=he
   rw [List.map_cons,evs_eval h l us hus,(h.ev hv).1,ren_flat hf]
theorem evp_eval(h:Rel D r s a w):∀ (l:List (Nat × Operand)) (vs:List (Nat × Value)),evp s l=some vs→(l.map fun (i,x)=>(i,a.eval x))=vs
 | [],vs,he=>by simp only [evp,Option.some.injEq] at he;subst he;rfl
 | (i,x) :: l,vs,he=>by
  simp only [evp] at he
  cases hv:s.ev x with
  | none=>simp [hv] at he
  | some v=>
   simp only [hv] at he
   cases hf:flat v <;> rw [hf] at he <;> simp only [cond_false,cond_true,reduceCtorEq,Option.map_eq_some_iff] at he
   obtain ⟨us,hus,rfl⟩:=he
   rw [List.map_cons,evp_eval h l us hus]
   show (i,a.eval x) :: us=_
   rw [(h.ev hv).1,ren_flat hf]
theorem sarg_some{c:Call}{f b:Nat}{az cs:List Value}(hs:sarg s c=some (f,az,b,cs)) :
  c.callee=.value (.func f)∧∃ x r T,c.args.toList.reverse=x :: r∧s.ev x=some (.slice (some ⟨b,0,none⟩) cs.length cs.length)∧s.m b=some (cs,T)∧evs s r.reverse=some az∧cs.all flat1=true∧isW b=false∧cs ≠ []:=by
 unfold sarg at hs
 split at hs
 ·rename_i g hg
  split at hs
  ·rename_i x r hr
   split at hs
   ·rename_i b' l n hx
    split at hs
    ·rename_i cs' T hm
     split at hs
     ·rename_i az' has
      cases hk:(Nat.beq l cs'.length && Nat.beq n cs'.length && cs'.all flat1 && (!isW b' && !cs'.isEmpty)) <;> rw [hk] at hs <;> simp only [cond_false,cond_true,reduceCtorEq,Option.some.injEq,Prod.mk.injEq] at hs
      obtain ⟨rfl,rfl,rfl,rfl⟩:=hs
      obtain ⟨hk1,hk4⟩:=Bool.and_eq_true_iff.1 hk
      obtain ⟨hk1,hk3⟩:=Bool.and_eq_true_iff.1 hk1
      obtain ⟨hk1,hk2⟩:=Bool.and_eq_true_iff.1 hk1
      have hk1:=Nat.eq_of_beq_eq_true hk1
      have hk2:=Nat.eq_of_beq_eq_true hk2
      subst hk1 hk2
      obtain ⟨hk4,hk5⟩:=Bool.and_eq_true_iff.1 hk4
      exact ⟨hg,x,r,T,hr,hx,hm,has,hk3,by simpa using hk4,fun e=>by rw [e] at hk5;cases hk5⟩
     ·cases hs
    ·cases hs
   ·cases hs
  ·cases hs
 ·cases hs
theorem sarg_callee{c:Call}{f b:Nat}{az cs:List Value}(hs:sarg s c=some (f,az,b,cs)):c.callee=.value (.func f)∧True:=⟨(sarg_some hs).1,trivial⟩
theorem sarg_eval(h:Rel D r s a w){c:Call}{f b:Nat}{az cs:List Value}(hs:sarg s c=some (f,az,b,cs)) :
  ∃ T,c.args.map a.eval=(az ++ [Value.slice (some ⟨(r b).1,0,none⟩) cs.length cs.length]).toArray∧w.heap[(r b).1]? = some (.cells cs.toArray T (0,0)):=by
 obtain ⟨_,x,l,T,hl,hx,hm,has,hf,hwb,hne⟩:=sarg_some hs
 have hl':c.args.toList=l.reverse ++ [x]:=by
  have:=congrArg List.reverse hl
  simpa using this
 refine ⟨T,?_,?_⟩
 ·apply Array.ext'
  rw [Array.toList_map,hl',List.map_append,evs_eval h _ _ has]
  simp [(h.ev hx).1,ren,ren1,(h.own b _ hwb hm).2]
 ·have:=h.row b cs T hwb hm hne
  have hmap:cs.map (ren1 r)=cs:=by
   conv=>rhs;rw [← List.map_id cs]
   exact List.map_congr_left fun v hv=>ren1_flat (List.all_eq_true.1 hf v hv)
  rwa [hmap] at this
theorem flat_cells{v:Value}(h:flat v=true):∀ c ∈ v.cells.toList,flat1 c=true:=by
 unfold flat at h
 split at h
 ·exact fun c hc=>List.all_eq_true.1 h c hc
 ·rename_i hn
  intro c hc
  have:v.cells=#[v]:=by unfold Value.cells;split <;> simp_all
  rw [this] at hc
  simp at hc;subst hc;exact h
theorem eva_eval(h:Rel D r s a w):∀ (l:List Operand) (vs:List Value),eva s l=some vs→l.map a.eval=vs.map (ren D.W)
 | [],vs,he=>by simp only [eva,Option.some.injEq] at he;subst he;rfl
 | x :: l,vs,he=>by
  simp only [eva] at he
  cases hv:s.ev x with
  | none=>simp [hv] at he
  | some v=>
   simp only [hv] at he
   cases hf:fw v <;> rw [hf] at he <;> simp only [cond_false,cond_true,reduceCtorEq,Option.map_eq_some_iff] at he
   obtain ⟨us,hus,rfl⟩:=he
   rw [List.map_cons,List.map_cons,eva_eval h l us hus,(h.ev hv).1,ren_win h.win hf]
theorem run_enter{c:Call}{f:Nat}{o:Oper}(ho:o.op=.call c)(hcal:c.callee=.value (.func f))(hen:entersL P f=true):(execOp a.eval o).run P w=.ok (.enter f (c.args.map a.eval)) w:=by
 unfold entersL at hen
 cases hfn:P.funcs[f]? with
 | none=>simp [hfn] at hen
 | some fn=>
  simp only [hfn] at hen
  obtain ⟨h1,h2⟩:=Bool.and_eq_true_iff.1 hen
  obtain ⟨bd,hbd⟩:=Option.isSome_iff_exists.1 h2
  have h3 : fn.name ≠ "runtime.NumGoroutine" := by simpa using h1
  simp [execOp,ho,resolve,hcal,Act.eval,Deferred.ofValue,invoke,callFunc,hfn,h3,hbd]
theorem op_ok(hC:WOk P D C)(h:Rel D r s a w){o:Oper}{e:Eff}(he:eff P L C o s=some e)(hp:∀ q,e.p=some q→q)
  {K:Act→World→Prop} {Q:Exit→Act→World→Prop} (hK:∀ r' a' w',Rel D r' (s.app o.dst e) a' w'→K a' w'):o.wp P a w K Q:=by
 unfold eff at he
 cases hd:fits o.dst s.n <;> rw [hd] at he <;> simp only [cond_false,cond_true,reduceCtorEq] at he
 have copy:∀ x,(o.op=.move x ∨ o.op=.assign x)→(s.ev x).map (fun v=>(⟨none,v,none,none,false,none⟩:Eff))=some e→o.wp P a w K Q:=by
  intro x ho hx
  cases hv:s.ev x with
  | none=>simp [hv] at hx
  | some v=>
   simp [hv] at hx
   subst hx
   obtain ⟨h1,h2⟩:=h.ev hv
   have:K (a.put o.dst (ren r v)) w:=hK r _ _ (h.put o.dst v hd h2)
   unfold Oper.wp execOp
   rcases ho with ho | ho <;> (simp only [ho];rw [h1];exact this)
 have lookf:∀ (L:List (Ent P)) f en,look L f=some en→en.f=f:=by
  intro L f en hlk
  induction L with
  | nil=>simp [look] at hlk
  | cons x l ih=>
   simp only [look] at hlk
   cases hb:Nat.beq x.f f <;> rw [hb] at hlk
   ·exact ih (by simpa using hlk)
   ·simp at hlk;subst hlk;exact Nat.eq_of_beq_eq_true hb
 have gen:eff0 P L C o s=gen0 P L o s→o.wp P a w K Q:=by
  intro hg
  rw [hg] at he
  unfold gen0 at he
  cases hk:(knownFlat s o.op && notSelect o.op) <;> rw [hk] at he <;> simp only [cond_false,cond_true,reduceCtorEq] at he
  obtain ⟨hk1,hk2⟩:=Bool.and_eq_true_iff.1 hk
  have hcongr:execOp a.eval o=execOp (fun x=>(s.ev x).getD undef) o:=by
   refine execOp_congr o (fun cs b hs=>by rw [hs] at hk2;simp [notSelect] at hk2) fun x hx=>?_
   have:=List.all_eq_true.1 hk1 x (by simpa using hx)
   cases hv:s.ev x with
   | none=>simp [hv] at this
   | some v=>
    simp only [hv] at this
    obtain ⟨h1,_⟩:=h.ev hv
    rw [h1,ren_flat this];rfl
  cases hr:prun P (execOp (fun x=>(s.ev x).getD undef) o) with
  | none=>simp [hr] at he
  | some nx=>
   simp only [hr] at he
   have hrun:=prun_run _ _ hr w
   unfold Oper.wp
   rw [hcongr,hrun]
   cases nx <;> simp only [nextL,reduceCtorEq] at he
   case value v=>
    cases hf:flat v <;> rw [hf] at he <;> simp at he
    subst he
    rw [Oper.upon_value]
    have:=hK r _ _ (h.put o.dst v hd (okv_flat hf))
    rwa [ren_flat hf] at this
   case enter f args=>
    cases hlk:look L f with
    | none=>simp [hlk] at he
    | some en=>
     simp only [hlk] at he
     cases hs:en.sp args.toList with
     | none=>simp [hs] at he
     | some pv=>
      obtain ⟨p,v⟩:=pv
      simp only [hs] at he
      cases hf:flat v <;> rw [hf] at he <;> simp at he
      subst he
      have hfe:en.f=f:=lookf _ _ _ hlk
      have hc:=en.ok _ _ _ hs hp w
      rw [Oper.upon_enter,← hfe]
      simp only [Array.toArray_toList] at hc
      refine hc.mono ?_
      rintro e' w' ⟨rfl,hb⟩
      have:=hK r _ _ ((h.world hb).put o.dst v hd (okv_flat hf))
      rwa [ren_flat hf] at this
 obtain ⟨dst,op,type,pos,after,guard⟩:=o
 cases op with
 | move x=>exact copy x (.inl rfl) he
 | assign x=>exact copy x (.inr rfl) he
 | box T x=>
  simp only [eff0] at he
  cases hv:s.ev x with
  | none=>simp [hv] at he
  | some v=>
   simp only [hv] at he
   obtain ⟨h1,h2⟩:=h.ev hv
   have:=new_ok h he hd (okv_cells h2) hK
   unfold Oper.wp execOp
   simp only [Instr.box,newVar,newRow,newObj,h1,cells_ren]
   exact this
 | alloc T=>
  simp only [eff0] at he
  cases hi:P.info? T with
  | none=>simp [hi] at he
  | some i=>
   simp only [hi] at he
   cases hz:i.zero with
   | none=>simp [hz] at he
   | some z=>
    simp only [hz] at he
    cases hf:flat z <;> rw [hf] at he <;> simp only [cond_false,cond_true,reduceCtorEq] at he
    have:=new_ok h he hd (okv_cells (okv_flat hf)) hK
    have hc:(z.cells.toList.map (ren1 r)).toArray=z.cells:=by
     have:=cells_ren r z
     rw [ren_flat hf] at this
     exact this.symm
    rw [hc] at this
    unfold Oper.wp execOp
    simp only [Instr.alloc,zeroValue,typeInfo,Sem.run_bind,run_program,hi,hz,Sem.run_pure,Result.andThen_ok,newVar,newRow,newObj]
    exact this
 | load T x=>
  simp only [eff0] at he
  cases hv:s.ev x with
  | none=>simp [hv] at he
  | some v=>
   simp only [hv] at he
   cases ha:addrL v with
   | none=>simp [ha] at he
   | some bo=>
    obtain ⟨b,off⟩:=bo
    simp only [ha] at he
    cases hm:s.m b with
    | none=>simp [hm] at he
    | some c=>
     obtain ⟨cs,U⟩:=c
     simp only [hm] at he
     cases hl:loadL P T cs off with
     | none=>simp [hl] at he
     | some u=>
      simp [hl] at he
      subst he
      obtain ⟨h1,_⟩:=h.ev hv
      obtain ⟨h3,h4⟩:=run_load_row (P:=P) h hm hl
      have:=hK r _ _ (h.put dst u hd h4)
      unfold Oper.wp execOp
      simp only [h1,addrL_some ha,ren,ren1,Instr.loadAt,Instr.sureAddr,Sem.run_bind,Sem.run_pure,Result.andThen_ok,h3]
      exact this
 | store T x y=>
  simp only [eff0] at he
  cases hv:s.ev x with
  | none=>simp [hv] at he
  | some v=>
  cases hy:s.ev y with
  | none=>simp [hv,hy] at he
  | some u=>
   simp only [hv,hy] at he
   cases ha:addrL v with
   | none=>simp [ha] at he
   | some bo=>
    obtain ⟨b,off⟩:=bo
    simp only [ha] at he
    cases hm:s.m b with
    | none=>simp [hm] at he
    | some c=>
     obtain ⟨cs,U⟩:=c
     simp only [hm] at he
     cases hz:sizeL P T with
     | none=>simp [hz] at he
     | some n=>
      simp only [hz] at he
      cases hk:(Nat.beq u.cells.size n && Nat.ble (off + n) cs.length && u.cells.toList.all (·.oneCell') && ((!isW b && (!cs.isEmpty || u.cells.isEmpty)) || (isRW b && flat u && sameKs (cs.drop off) u.cells.toList))) <;> rw [hk] at he <;> simp only [cond_false,cond_true,reduceCtorEq,Option.some.injEq] at he
      subst he
      obtain ⟨hk0,hk4⟩:=Bool.and_eq_true_iff.1 hk
      obtain ⟨hk1,hk3⟩:=Bool.and_eq_true_iff.1 hk0
      obtain ⟨hk1,hk2⟩:=Bool.and_eq_true_iff.1 hk1
      have hk1:=Nat.eq_of_beq_eq_true hk1
      have hk2:=Nat.le_of_ble_eq_true hk2
      obtain ⟨h1,_⟩:=h.ev hv
      obtain ⟨h2,h2'⟩:=h.ev hy
      have hst:∃ w',(storeCells ⟨(r b).1,(r b).2 + off,none⟩ (u.cells.toList.map (ren1 r)) 0).run P w=.ok () w'∧Rel D r (s.row (some (b,spliceL cs off u.cells.toList,U))) a w':=by
       cases hwb:isW b
       ·rw [hwb] at hk4
        have hrb:isRW b=false:=by
         cases f:isRW b
         ·rfl
         ·rw [rw_w f] at hwb;cases hwb
        rw [hrb] at hk4
        by_cases hcs:cs = []
        ·subst hcs
         have hu:u.cells.toList = []:=by simpa using hk4
         have hss:s.row (some (b,([],U)))=s:=by
          have hmm:(fun x=>cond (Nat.beq x b) (some (([]:List Value),U)) (s.m x))=s.m:=funext fun x=>by
           cases e:Nat.beq x b
           ·rfl
           ·rw [Nat.eq_of_beq_eq_true e];exact hm.symm
          show (⟨s.n,s.k,s.t,fun x=>cond (Nat.beq x b) (some (([]:List Value),U)) (s.m x),s.g⟩:St)=s
          rw [hmm]
         rw [hu]
         exact ⟨w,rfl,by simp only [spliceL,List.take_nil,List.drop_nil,List.append_nil];rw [hss];exact h⟩
        have hne:cs ≠ []:=hcs
        have hrow:=h.row b cs U hwb hm hne
        have hW:=h.write (cs:=spliceL cs off u.cells.toList) hwb hm hne (fun c hc=>(mem_splice hc).elim (h.rok b cs U hm c) (okv_cells h2' c))
        rw [map_splice] at hW
        refine ⟨_,?_,hW⟩
        rw [(h.own b _ hwb hm).2,Nat.zero_add]
        exact run_storeCells_splice (P:=P) (r b).1 off U (u.cells.toList.map (ren1 r)) 0 (cs.map (ren1 r)) w hrow
         (by simp;omega) (fun q hq=>by
          obtain ⟨q',hq',rfl⟩:=List.mem_map.1 hq
          rw [oneCell_ren1];exact List.all_eq_true.1 hk3 q' hq')
       ·rw [hwb] at hk4
        simp only [Bool.not_true,Bool.false_and,Bool.false_or,Bool.and_eq_true] at hk4
        have hfl:∀ c ∈ u.cells.toList,flat1 c=true:=flat_cells hk4.1.2
        have hmap:u.cells.toList.map (ren1 r)=u.cells.toList:=by
         conv=>rhs;rw [← List.map_id u.cells.toList]
         exact List.map_congr_left fun c hc=>ren1_flat (hfl c hc)
        rw [hmap]
        exact run_storeCells_win (P:=P) hk4.1.1 u.cells.toList 0 cs s w h hm (by simp;omega) hk4.2 (fun c hc=>⟨List.all_eq_true.1 hk3 c hc,hfl c hc⟩)
      obtain ⟨w',hst,hW⟩:=hst
      have:=hK r _ _ (hW.put dst undef hd (by exact okv_flat rfl))
      have hsz:(ren r u).cells.size=n:=by rw [cells_ren];simpa using hk1
      obtain ⟨i,hi,hi'⟩:∃ i,P.info? T=some i∧i.size=n:=by
       unfold sizeL at hz
       cases hq:P.info? T with
       | none=>simp [hq] at hz
       | some i=>exact ⟨i,rfl,by simpa [hq] using hz⟩
      unfold Oper.wp execOp
      have hcl:(ren r u).cells.toList=u.cells.toList.map (ren1 r):=by rw [cells_ren]
      simp only [h1,h2,addrL_some ha,show ren r (.pointer (some ⟨b,off,none⟩))=.pointer (some ⟨(r b).1,(r b).2 + off,none⟩) from rfl,Instr.storeAt,Instr.sureAddr,Sem.run_bind,Sem.run_pure,Result.andThen_ok,storeVar,sizeOf,typeInfo,run_program,hi,hi',hsz,hcl,hst,Nat.add_zero,ne_eq,not_true_eq_false,if_false]
      exact this
 | fieldAddr S x f=>
  simp only [eff0] at he
  cases hv:s.ev x with
  | none=>simp [hv] at he
  | some v=>
   simp only [hv] at he
   cases ha:addrL v with
   | none=>simp [ha] at he
   | some bo=>
    obtain ⟨b,off⟩:=bo
    simp only [ha] at he
    cases hu:P.underlying S with
    | none=>simp [hu] at he
    | some d=>
     cases d <;> simp only [hu,reduceCtorEq] at he
     rename_i fs
     cases hf:fs[f]? with
     | none=>simp [hf] at he
     | some fd=>
      simp only [hf] at he
      cases hz:sizeL P fd.type with
      | none=>simp [hz] at he
      | some n=>
       cases n with
       | zero=>simp [hz] at he
       | succ n=>
        simp only [hz,Option.some.injEq] at he
        subst he
        obtain ⟨h1,h2⟩:=h.ev hv
        obtain ⟨i,hi,hi'⟩:∃ i,P.info? fd.type=some i∧i.size=n + 1:=by
         unfold sizeL at hz
         cases hq:P.info? fd.type with
         | none=>simp [hq] at hz
         | some i=>exact ⟨i,rfl,by simpa [hq] using hz⟩
        have:=hK r _ _ (h.put dst (.pointer (some ⟨b,off + fd.offset,none⟩)) hd (by rw [addrL_some ha] at h2;exact h2))
        unfold Oper.wp execOp
        simp only [h1,addrL_some ha,show ren r (.pointer (some ⟨b,off,none⟩))=.pointer (some ⟨(r b).1,(r b).2 + off,none⟩) from rfl,Instr.fieldAt,Instr.sureAddr,Sem.run_bind,Sem.run_pure,Result.andThen_ok,run_underlying hu,hf,fieldPlace,sizeOf,typeInfo,run_program,hi,hi',Addr.add_mid,Nat.succ_ne_zero,if_false]
        simp only [ren,ren1,← Nat.add_assoc] at this
        exact this
 | buildSlice T len parts=>
  simp only [eff0] at he
  cases hu:P.underlying T with
  | none=>simp [hu] at he
  | some d=>
   cases d <;> simp only [hu,reduceCtorEq] at he
   rename_i e'
   cases hps:evp s parts.toList with
   | none=>simp [hps] at he
   | some ps=>
    simp only [hps] at he
    cases hb:builtL P e' len ps with
    | none=>simp [hb] at he
    | some cs=>
     simp only [hb] at he
     cases hf:cs.all flat1 <;> rw [hf] at he <;> simp only [cond_false,cond_true,reduceCtorEq] at he
     have hfl:=List.all_eq_true.1 hf
     have hmap:cs.map (ren1 r)=cs:=by
      conv=>rhs;rw [← List.map_id cs]
      exact List.map_congr_left fun v hv=>ren1_flat (hfl v hv)
     have:=newS_ok h he hd (fun c hc=>ok1_flat (hfl c hc)) hK
     rw [hmap] at this
     have hpe:(parts.map fun (i,x)=>(i,a.eval x)).toList=ps:=by
      rw [Array.toList_map]
      exact evp_eval h _ _ hps
     unfold builtL at hb
     cases hi:P.info? e' with
     | none=>simp [hi] at hb
     | some ie=>
      simp only [hi] at hb
      cases hz:ie.zero with
      | none=>simp [hz] at hb
      | some z=>
       simp only [hz] at hb
       cases hk:(Nat.ble 1 (len * ie.size) && Nat.ble (len * ie.size) 65536) <;> rw [hk] at hb <;> simp only [cond_false,cond_true,reduceCtorEq,Option.map_eq_some_iff] at hb
       obtain ⟨arr,harr,rfl⟩:=hb
       obtain ⟨hk1,hk2⟩:=Bool.and_eq_true_iff.1 hk
       have hk1:=Nat.le_of_ble_eq_true hk1
       have hk2:=Nat.le_of_ble_eq_true hk2
       refine wp_buildSlice T e' len parts rfl arr ie z hu hi hz (by omega) (by omega) ?_ ?_
       ·rw [hpe];exact harr
       ·simpa using this
 | call c=>
  simp only [eff0] at he gen
  cases hcw:callW C c with
  | some e1=>
   simp only [hcw] at he
   cases hev:eva s c.args.toList with
   | none=>simp [hev] at he
   | some az=>
    simp only [hev] at he
    cases hsp:e1.sp s.g s.m az with
    | none=>simp [hsp] at he
    | some q=>
     obtain ⟨p,v,g⟩:=q
     simp only [hsp] at he
     cases hf:flat v && entersL P e1.f <;> rw [hf] at he <;> simp only [cond_false,cond_true,reduceCtorEq,Option.some.injEq] at he
     subst he
     obtain ⟨hf,hen⟩:=Bool.and_eq_true_iff.1 hf
     unfold callW at hcw
     cases hcal:c.callee <;> simp only [hcal,reduceCtorEq] at hcw
     rename_i cv
     cases cv <;> simp only [reduceCtorEq] at hcw
     rename_i f
     obtain ⟨hef,hcalls⟩:=hC.calls f e1 hcw
     rw [hef] at hen
     have hc:=hcalls _ _ _ _ _ _ hsp hp w h.big h.inv
     unfold Oper.wp
     rw [run_enter rfl hcal hen,Oper.upon_enter]
     have harg:c.args.map a.eval=(az.map (ren D.W)).toArray:=by
      apply Array.ext'
      rw [Array.toList_map,eva_eval h _ _ hev]
     rw [harg]
     refine hc.mono ?_
     rintro e' w' ⟨rfl,hJ,hkp⟩
     have:=hK r _ _ ((h.gone g hkp hJ).put dst v (by cases g <;> exact hd) (okv_flat hf))
     rwa [ren_flat hf] at this
  | none=>
  simp only [hcw] at he gen
  cases hs:sarg s c with
  | none=>rw [hs] at he gen;exact gen rfl
  | some q=>
   obtain ⟨f,az,b,cs⟩:=q
   simp only [hs] at he
   cases hlk:look L f with
   | none=>simp [hlk] at he
   | some en=>
    simp only [hlk] at he
    cases hsr:en.sr az cs with
    | none=>simp [hsr] at he
    | some pv=>
     obtain ⟨p,v⟩:=pv
     simp only [hsr] at he
     cases hf:flat v && entersL P f <;> rw [hf] at he <;> simp only [cond_false,cond_true,reduceCtorEq,Option.some.injEq] at he
     subst he
     obtain ⟨hf,hen⟩:=Bool.and_eq_true_iff.1 hf
     obtain ⟨T,ha,hrow⟩:=sarg_eval h hs
     obtain ⟨hcal,_⟩:=sarg_callee hs
     have hc:=en.okr _ _ _ _ hsr hp (r b).1 T w hrow
     rw [lookf _ _ _ hlk,← ha] at hc
     unfold Oper.wp
     rw [run_enter rfl hcal hen,Oper.upon_enter]
     refine hc.mono ?_
     rintro e' w' ⟨rfl,hb⟩
     have:=hK r _ _ ((h.world hb).put dst v hd (okv_flat hf))
     rwa [ren_flat hf] at this
 | nilCheck x=>
  simp only [eff0] at he gen
  cases hv:s.ev x with
  | none=>rw [hv] at he gen;exact gen rfl
  | some v=>
   have other:gen0 P L ⟨dst,.nilCheck x,type,pos,after,guard⟩ s=some e→Oper.wp P ⟨dst,.nilCheck x,type,pos,after,guard⟩ a w K Q:=fun hq=>by
    simp only [hv] at gen
    cases v <;> first | exact gen rfl | (rename_i p;cases p <;> first | exact gen rfl | skip)
    simp only [gen0,knownFlat,notSelect,Op.operands] at hq
    simp [hv,flat,flat1] at hq
   cases v with
   | pointer p=>
    cases p with
    | none=>simp only [hv] at he;exact other he
    | some ad=>
     simp only [hv,Option.some.injEq] at he
     subst he
     obtain ⟨h1,h2⟩:=h.ev hv
     have:=hK r _ _ (h.put dst (.pointer (some ad)) hd h2)
     unfold Oper.wp execOp
     simp only [h1]
     exact this
   | _=>simp only [hv] at he;exact other he
 | indexAddr T x y=>
  simp only [eff0] at he
  cases hv:s.ev x with
  | none=>simp [hv] at he
  | some v=>
  cases hy:s.ev y with
  | none=>simp [hv,hy] at he
  | some i=>
   simp only [hv,hy] at he
   obtain ⟨h1,h1'⟩:=h.ev hv
   obtain ⟨h2,h2'⟩:=h.ev hy
   cases hix:C.ix T v i with
   | some pu=>
    obtain ⟨p,u⟩:=pu
    simp only [hix] at he
    cases hf:flat i <;> rw [hf] at he <;> simp only [cond_false,cond_true,reduceCtorEq,Option.some.injEq] at he
    subst he
    obtain ⟨h3,h4,h5,h6⟩:=hC.ix _ _ _ _ _ hix (hp _ rfl) _ _ _ h.inv
    have:=hK r _ _ (h.put dst u hd h6)
    unfold Oper.wp execOp
    simp only [h1,h2,ren_flat hf,ren_win h.win h4,Sem.run_bind,h3,Sem.run_pure,Result.andThen_ok]
    rw [ren_win h.win h5] at this
    exact this
   | none=>
    simp only [hix] at he
    cases ha:addrL v with
    | none=>simp [ha] at he
    | some bo=>
     obtain ⟨b,off⟩:=bo
     simp only [ha] at he
     cases i <;> simp only [reduceCtorEq] at he
     rename_i k z
     cases hu:P.underlying T with
     | none=>simp [hu] at he
     | some d=>
      cases d <;> simp only [hu,reduceCtorEq] at he
      rename_i len el
      cases hz:sizeL P el with
      | none=>simp [hz] at he
      | some n=>
       simp only [hz] at he
       cases hb:(decide (0≤z) && decide (z < len)) <;> rw [hb] at he <;> simp only [cond_false,cond_true,reduceCtorEq,Option.some.injEq] at he
       subst he
       obtain ⟨hb1,hb2⟩:=Bool.and_eq_true_iff.1 hb
       have hb1:=of_decide_eq_true hb1
       have hb2:=of_decide_eq_true hb2
       obtain ⟨ti,hi,hi'⟩:∃ i,P.info? el=some i∧i.size=n:=by
        unfold sizeL at hz
        cases hq:P.info? el with
        | none=>simp [hq] at hz
        | some i=>exact ⟨i,rfl,by simpa [hq] using hz⟩
       have:=hK r _ _ (h.put dst (.pointer (some ⟨b,off + z.toNat * n,none⟩)) hd (by rw [addrL_some ha] at h1';exact h1'))
       unfold Oper.wp execOp
       simp only [h1,h2,addrL_some ha,show ren r (.pointer (some ⟨b,off,none⟩))=.pointer (some ⟨(r b).1,(r b).2 + off,none⟩) from rfl,show ren r (.int k z)=.int k z from rfl,Instr.indexAt,asIntOf,Instr.sureAddr,Sem.run_bind,Sem.run_pure,Result.andThen_ok,run_underlying hu,sizeOf,typeInfo,run_program,hi,hi',hb1,hb2,and_self,if_true,Addr.add_mid]
       simp only [ren,ren1,← Nat.add_assoc] at this
       exact this
 | _=>exact gen rfl
end
end Go.Proofs.YteimojoicfjdjaaGreat.Sx
