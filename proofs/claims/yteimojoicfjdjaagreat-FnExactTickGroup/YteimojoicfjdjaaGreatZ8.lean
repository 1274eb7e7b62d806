/- Parts of the proof: SxC. -/
import Derived.Test.YteimojoicfjdjaaGreatZ7
namespace Go.Proofs.YteimojoicfjdjaaGreat.Sx
open Go.RowKit Pl
set_option linter.unusedSimpArgs false
set_option linter.unusedVariables false
section
variable {P:Program} {L:List (Ent P)} {C:Cf} {D:Wd} {r:Nat→Nat × Nat} {s:St} {a:Act} {w:World}
theorem run_storeCells_splice(g o:Nat)(t:TypeId):∀ (vs:List Value) (i:Nat) (cur:List Value) (w:World),w.heap[g]? = some (.cells cur.toArray t (0,0))→o + i + vs.length≤cur.length→(∀ v ∈ vs,v.oneCell'=true) →
  (storeCells ⟨g,o,none⟩ vs i).run P w=.ok () (w.setRow g (spliceL cur (o + i) vs).toArray)
 | [],i,cur,w,hg,hl,_=>by
  have hs:spliceL cur (o + i) []=cur:=by simp [spliceL]
  have hlt:g < w.heap.size:=(Array.getElem?_eq_some_iff.1 hg).1
  have hv:w.heap[g]=.cells cur.toArray t (0,0):=(Array.getElem?_eq_some_iff.1 hg).2
  rw [hs]
  show Result.ok () w=_
  congr 1
  unfold World.setRow
  cases w with
  | mk heap tape drawn os output=>
   congr 1
   apply Array.ext
   ·simp
   ·intro k h1 h2
    simp only [Array.getElem_modify]
    split
    ·rename_i hk;subst hk;simp at hv;simp [hv]
    ·rfl
 | v :: rest,i,cur,w,hg,hl,h1=>by
  have hi:o + i < cur.length:=by simp at hl;omega
  have hadd:(⟨g,o,none⟩:Addr).add i=⟨g,o + i,none⟩:=Addr.add_mid _ _ _
  have hcell:w.cell? ⟨g,o + i,none⟩=some cur[o + i]:=by simp [World.cell?,hg,hi]
  have hfro:w.frozen? ⟨g,o + i,none⟩=false:=by simp [World.frozen?,hg]
  have hst:(store ((⟨g,o,none⟩:Addr).add i) v).run P w=.ok () (w.setRow g (cur.set (o + i) v).toArray):=by
   rw [hadd,run_store P w _ v _ (h1 v (by simp)),hcell]
   simp [hfro,setCell_eq_setRow w g (o + i) cur.toArray t (0,0) v hg]
  have ih:=run_storeCells_splice g o t rest (i + 1) (cur.set (o + i) v) (w.setRow g (cur.set (o + i) v).toArray) (setRow_heap w g _ _ t _ hg) (by simp at hl ⊢;omega) (fun x hx=>h1 x (by simp [hx]))
  simp only [storeCells,Sem.run_bind,hst,Result.andThen_ok,ih,setRow_setRow]
  congr 3
  unfold spliceL
  apply List.ext_getElem?
  intro k
  simp only [List.getElem?_append,List.length_take,List.length_set,List.length_append,List.length_cons,List.getElem?_drop]
  by_cases hk:k < o + i
  ·simp [hk,show k < o + (i + 1) by omega,show min (o + (i + 1)) cur.length=o + (i + 1) by omega,show min (o + i) cur.length=o + i by omega,show o + i ≠ k by omega,show k < o + (i + 1) + rest.length by omega,show k < o + i + (rest.length + 1) by omega]
  ·by_cases hk2:k=o + i
   ·subst hk2
    simp [show min (o + (i + 1)) cur.length=o + i + 1 by omega,show min (o + i) cur.length=o + i by omega,hi,show o + i < o + (i + 1) by omega]
    omega
   ·simp only [show min (o + (i + 1)) cur.length=o + i + 1 by omega,show min (o + i) cur.length=o + i by omega,hk,show ¬ k < o + i + 1 by omega,if_false]
    by_cases hk3:k < o + i + (rest.length + 1)
    ·simp [hk3,show k < o + i + 1 + rest.length by omega,show k - (o + i)=(k - (o + i + 1)) + 1 by omega]
    ·simp only [hk3,show ¬ k < o + i + 1 + rest.length by omega,if_false]
     rw [List.getElem?_set_ne (by omega)]
     congr 1;omega
theorem map_splice(f:Value→Value)(cs:List Value)(o:Nat)(vs:List Value):(spliceL cs o vs).map f=spliceL (cs.map f) o (vs.map f):=by
 simp [spliceL,List.map_take,List.map_drop]
theorem mem_splice{cs vs:List Value}{o:Nat}{c:Value}(h:c ∈ spliceL cs o vs):c ∈ cs ∨ c ∈ vs:=by
 simp only [spliceL,List.mem_append] at h
 rcases h with (h | h) | h
 ·exact .inl (List.mem_of_mem_take h)
 ·exact .inr h
 ·exact .inl (List.mem_of_mem_drop h)
theorem addrL_some{v:Value}{b o:Nat}(h:addrL v=some (b,o)):v=.pointer (some ⟨b,o,none⟩):=by
 unfold addrL at h
 split at h <;> simp_all
theorem run_load_row(h:Rel D r s a w){T:TypeId}{b o:Nat}{cs:List Value}{U:TypeId}{v:Value}(hb:s.m b=some (cs,U))(hl:loadL P T cs o=some v) :
  (loadVar T ⟨(r b).1,(r b).2 + o,none⟩).run P w=.ok (ren r v) w∧okv s.m v:=by
 have hat:=fun j v hv=>h.cellAt hb (j:=j) (v:=v) hv
 have hok:=h.rok b cs U hb
 unfold loadL at hl
 cases hu:P.underlying T with
 | none=>simp [hu] at hl
 | some d=>
  rw [hu] at hl
  simp only [] at hl
  cases hd:d.isRow
  ·rw [hd] at hl
   simp only [] at hl
   cases hx:cs[o]? with
   | none=>simp [hx] at hl
   | some u=>
    rw [hx] at hl
    simp only [] at hl
    cases ho:u.oneCell' <;> rw [ho] at hl <;> simp at hl
    subst hl
    have h1:=hok u (List.mem_of_getElem? hx)
    have hagg:(isAgg T).run P w=.ok false w:=by
     unfold isAgg
     rw [Sem.run_bind,run_underlying hu w]
     cases d <;> simp_all
    have hcell:=hat o u hx
    have e1:ren r u=ren1 r u:=by unfold ren;split <;> simp_all [Value.oneCell']
    have e2:okv s.m u:=by unfold okv;split <;> simp_all [Value.oneCell']
    exact ⟨by simp [loadVar,Sem.run_bind,hagg,hcell,e1],e2⟩
  ·rw [hd] at hl
   simp only [] at hl
   cases hi:P.info? T with
   | none=>simp [hi] at hl
   | some i=>
    rw [hi] at hl
    simp only [] at hl
    cases hle:Nat.ble (o + i.size) cs.length <;> rw [hle] at hl <;> simp at hl
    have hle':o + i.size≤cs.length:=Nat.le_of_ble_eq_true hle
    subst hl
    have hlen:((cs.drop o).take i.size).length=i.size:=by simp;omega
    refine ⟨?_,fun c hc=>hok c (List.mem_of_mem_drop (List.mem_of_mem_take (by simpa using hc)))⟩
    have:=run_loadVar_mid (P:=P) w (r b).1 ((r b).2 + o) T (((cs.drop o).take i.size).map (ren1 r)) d (fun j v hv=>by
     simp only [List.getElem?_map,Option.map_eq_some_iff] at hv
     obtain ⟨u,hu',rfl⟩:=hv
     rw [List.getElem?_take] at hu'
     split at hu'
     ·rw [List.getElem?_drop] at hu'
      rw [Nat.add_assoc]
      exact hat (o + j) u hu'
     ·simp at hu') hu hd (by simp [hi,hlen];omega)
    rw [this]
    simp [ren]
theorem splice_cons{cur rest:List Value}{v:Value}{k:Nat}(h:k < cur.length):spliceL (cur.set k v) (k + 1) rest=spliceL cur k (v :: rest):=by
 unfold spliceL
 apply List.ext_getElem?
 intro j
 simp only [List.getElem?_append,List.length_take,List.length_set,List.length_append,List.length_cons,List.getElem?_drop]
 by_cases hk:j < k
 ·simp [hk,show j < k + 1 by omega,show min (k + 1) cur.length=k + 1 by omega,show min k cur.length=k by omega,show k ≠ j by omega,show j < k + 1 + rest.length by omega,show j < k + (rest.length + 1) by omega]
 ·by_cases hk2:j=k
  ·subst hk2
   simp [show min (j + 1) cur.length=j + 1 by omega,show min j cur.length=j by omega,h,show j < j + 1 + rest.length by omega]
  ·simp only [show min (k + 1) cur.length=k + 1 by omega,show min k cur.length=k by omega,hk,show ¬ j < k + 1 by omega,if_false]
   by_cases hk3:j < k + (rest.length + 1)
   ·simp [hk3,show j < k + 1 + rest.length by omega,show j - k=(j - (k + 1)) + 1 by omega]
   ·simp only [hk3,show ¬ j < k + 1 + rest.length by omega,if_false]
    rw [List.getElem?_set_ne (by omega)]
    congr 1;omega
theorem row_row(s:St)(b:Nat)(c c':Row):(s.row (some (b,c))).row (some (b,c'))=s.row (some (b,c')):=by
 simp only [St.row]
 congr 1
 funext j
 cases Nat.beq j b <;> rfl
theorem run_storeCells_win{b o:Nat}{T:TypeId}(hw:isRW b=true):∀ (vs:List Value) (i:Nat) (cs:List Value) (s:St) (w:World),Rel D r s a w→s.m b=some (cs,T)→o + i + vs.length≤cs.length →
  sameKs (cs.drop (o + i)) vs=true→(∀ v ∈ vs,v.oneCell'=true∧flat1 v=true) →
  ∃ w',(storeCells ⟨(r b).1,(r b).2 + o,none⟩ vs i).run P w=.ok () w'∧Rel D r (s.row (some (b,spliceL cs (o + i) vs,T))) a w'
 | [],i,cs,s,w,h,hb,hl,_,_=>by
  have hs:spliceL cs (o + i) []=cs:=by simp [spliceL]
  refine ⟨w,rfl,?_⟩
  rw [hs]
  have:s.row (some (b,cs,T))=s:=by
   obtain ⟨n,k,t,m,g⟩:=s
   simp only [St.row]
   congr 1
   funext j
   cases e:Nat.beq j b
   ·rfl
   ·rw [Nat.eq_of_beq_eq_true e];exact hb.symm
  rw [this];exact h
 | v :: rest,i,cs,s,w,h,hb,hl,hk,h1=>by
  have hi:o + i < cs.length:=by simp at hl;omega
  have hd:cs.drop (o + i)=cs[o + i] :: cs.drop (o + i + 1):=List.drop_eq_getElem_cons hi
  rw [hd] at hk
  obtain ⟨hk1,hk2⟩:=Bool.and_eq_true_iff.1 (show (sameK cs[o + i] v && sameKs (cs.drop (o + i + 1)) rest)=true from hk)
  have hu:cs[o + i]? = some cs[o + i]:=by simp [hi]
  obtain ⟨hfro,hR⟩:=h.cell1 hw hb hu hk1 (h1 v (by simp)).2
  have hcell:=h.cellAt hb hu
  have hadd:(⟨(r b).1,(r b).2 + o,none⟩:Addr).add i=⟨(r b).1,(r b).2 + (o + i),none⟩:=by rw [Addr.add_mid,Nat.add_assoc]
  have hst:(store ((⟨(r b).1,(r b).2 + o,none⟩:Addr).add i) v).run P w=.ok () (w.setCell ⟨(r b).1,(r b).2 + (o + i),none⟩ v):=by
   rw [hadd,run_store P w _ v _ (h1 v (by simp)).1,hcell]
   simp [hfro]
  have hmb:(s.row (some (b,cs.set (o + i) v,T))).m b=some (cs.set (o + i) v,T):=by simp [St.row,Nat.beq_refl]
  have hdr:(cs.set (o + i) v).drop (o + (i + 1))=cs.drop (o + i + 1):=by
   rw [show o + (i + 1)=o + i + 1 by omega];exact List.drop_set_of_lt (by omega)
  obtain ⟨w',hw',hR'⟩:=run_storeCells_win (o:=o) hw rest (i + 1) (cs.set (o + i) v) _ _ hR hmb (by simp at hl ⊢;omega)
   (by rw [hdr];exact hk2) (fun x hx=>h1 x (by simp [hx]))
  refine ⟨w',?_,?_⟩
  ·simp only [storeCells,Sem.run_bind,hst,Result.andThen_ok,hw']
  ·rw [row_row,show o + (i + 1)=o + i + 1 by omega,splice_cons hi] at hR'
   exact hR'
end
end Go.Proofs.YteimojoicfjdjaaGreat.Sx
