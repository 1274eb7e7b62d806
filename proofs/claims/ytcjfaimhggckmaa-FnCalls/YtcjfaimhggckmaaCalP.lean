/-
  A call that was taken, in plain: the ledger behind it is right, and what it counts.
-/
import Derived.Test.YtcjfaimhggckmaaLedP
import Derived.Test.YtcjfaimhggckmaaAdd7
import Derived.Test.YtcjfaimhggckmaaLedJ
namespace Go.Proofs.Ytcjfaimhggckmaa
open Go.RowKit Pl
set_option linter.unusedSimpArgs false
set_option linter.unusedVariables false

theorem inc_of_ps {l : List Pe} (h : ∀ (j : Nat) q, l[j]? = some q → (if j = 0 then 0 else lastId l j) < q.id) : l.Pairwise (fun p q => p.id < q.id) := by
  rw [List.pairwise_iff_getElem]
  intro i j hi hj hij
  induction j with
  | zero => omega
  | succ j ih =>
    have h1 := h (j + 1) l[j + 1] (List.getElem?_eq_getElem hj)
    rw [if_neg (by omega)] at h1
    have hj2 : j < l.length := by omega
    have e : lastId l (j + 1) = l[j].id := by simp [lastId, List.getElem?_eq_getElem hj2]
    rw [e] at h1
    by_cases c : i = j
    · subst c; exact h1
    · have := ih hj2 (by omega); omega
theorem ps_of_inc {l : List Pe} (h : l.Pairwise (fun p q => p.id < q.id)) (h1 : ∀ q ∈ l, 1 ≤ q.id) : ∀ (j : Nat) q, l[j]? = some q → (if j = 0 then 0 else lastId l j) < q.id := by
  intro j q hq
  cases j with
  | zero => rw [if_pos rfl]; have := h1 q (List.mem_of_getElem? hq); omega
  | succ j =>
    rw [if_neg (by omega)]
    obtain ⟨hj, e⟩ := List.getElem?_eq_some_iff.1 hq
    have hj2 : j < l.length := by omega
    have := List.pairwise_iff_getElem.1 h j (j + 1) hj2 hj (by omega)
    have e2 : lastId l (j + 1) = l[j].id := by simp [lastId, List.getElem?_eq_getElem hj2]
    rw [e2, ← e]
    exact this
theorem freeL_sub (l : List Pe) : (freeL l).Sublist l := by
  unfold freeL
  split
  · exact List.eraseIdx_sublist ..
  · exact List.Sublist.refl _
theorem cnt_erase_fi (l : List Pe) : cnt 0 (-1) 0 (l.eraseIdx (fi l)) = cnt 0 (-1) 0 l := by
  induction l with
  | nil => rfl
  | cons p l ih =>
    unfold fi
    by_cases c : doneB p = true
    · rw [if_pos c]
      have z : isIn 0 (-1) 0 p = false := by
        unfold doneB at c
        simp at c
        simp [isIn, c.1]
      unfold cnt
      rw [List.eraseIdx_cons_zero, List.countP_cons_of_neg (by rw [z]; simp)]
    · rw [if_neg c, List.eraseIdx_cons_succ]
      unfold cnt at ih ⊢
      rw [List.countP_cons, List.countP_cons, ih]
theorem cnt_free (l : List Pe) : cnt 0 (-1) 0 (freeL l) = cnt 0 (-1) 0 l := by
  unfold freeL
  split
  · exact cnt_erase_fi l
  · rfl
theorem cnt_add (l : List Pe) (nx f t sh ca : Int) : cnt 0 (-1) 0 (freeL l ++ [(⟨nx, f, t, sh, ca, 0, 0⟩ : Pe)]) = cnt 0 (-1) 0 l + 1 := by
  have := cnt_free l
  unfold cnt at this ⊢
  rw [List.countP_append, this]
  rfl
theorem cnt_ride (l : List Pe) (nx f t sh ca a b : Int) : cnt 1 a b (freeL l ++ [(⟨nx, f, t, sh, ca, 0, 0⟩ : Pe)]) ≤ cnt 1 a b l := by
  have := (freeL_sub l).countP_le (p := isIn 1 a b)
  unfold cnt
  rw [List.countP_append]
  have z : List.countP (isIn 1 a b) [(⟨nx, f, t, sh, ca, 0, 0⟩ : Pe)] = 0 := by simp [isIn]
  omega
theorem cnt_dropped (l : List Pe) : cnt 0 (-1) 0 (l.map dropP) = 0 := by
  unfold cnt
  rw [List.countP_map, List.countP_eq_zero]
  intro p _
  unfold dropP
  by_cases c : p.st = 0 <;> simp [isIn, c]
/-- What was asked of a call that was taken. -/
theorem addC_parts {h : Hs} {x : Lg} {f t sh ca : Int} (hf : h.fault = 0) (e : Hs.addC h x f t sh ca = 0) :
    Hs.callC h f t = 0 ∧ carB sh ca = true ∧ (cnt 0 (-1) 0 x.ps : Int) < h.qu ∧ x.nx ≠ 1000000000000000 ∧ (x.ps.length < 60 ∨ fi x.ps < x.ps.length) := by
  unfold Hs.addC at e
  by_cases c1 : Hs.call h f t = 0
  case neg => rw [if_neg c1] at e; exact absurd e c1
  rw [if_pos c1] at e
  by_cases c2 : carB sh ca = true
  case neg => rw [if_neg c2] at e; omega
  rw [if_pos c2] at e
  by_cases c3 : h.qu ≤ (cnt 0 (-1) 0 x.ps : Int)
  case pos => rw [if_pos c3] at e; omega
  rw [if_neg c3] at e
  by_cases c4 : x.nx = 1000000000000000 ∨ (60 ≤ x.ps.length ∧ x.ps.length ≤ fi x.ps)
  case pos => rw [if_pos c4] at e; omega
  unfold Hs.call at c1
  rw [if_pos hf] at c1
  exact ⟨c1, c2, by omega, fun q => c4 (Or.inl q), by omega⟩
/-- The ledger behind a call that was taken is right. -/
theorem led_add {h : Hs} {x : Lg} (k : LdOk h x) (f t sh ca : Int) (e : Hs.addC h x f t sh ca = 0) : LdOk h ⟨x.nx + 1, freeL x.ps ++ [(⟨x.nx, f, t, sh, ca, 0, 0⟩ : Pe)]⟩ := by
  obtain ⟨e1, e2, e3, e4, e5⟩ := addC_parts k.hf e
  have n1 := k.n1
  have n2 := k.n2
  have hlen := k.len
  have hfl := freeL_len x.ps k.len (fun q => by omega)
  have hid : ∀ q ∈ x.ps, (1 ≤ q.id ∧ q.id ≤ x.nx - 1) ∧ Hs.persC h q = 0 := by
    intro q hq
    obtain ⟨j, hj⟩ := List.getElem?_of_mem hq
    obtain ⟨a, _, b⟩ := pers_iff.1 (k.ps j q hj)
    exact ⟨inB_iff.1 a, b⟩
  have hinc : x.ps.Pairwise (fun p q => p.id < q.id) := inc_of_ps (fun j q hq => (pers_iff.1 (k.ps j q hq)).2.1)
  have hcar : inB sh 0 2 = true ∧ inB ca 0 1 = true := by unfold carB at e2; simpa using e2
  have cp := callC_parts e1
  have hnew : Hs.persC h (⟨x.nx, f, t, sh, ca, 0, 0⟩ : Pe) = 0 := by
    refine persC_iff.2 ⟨e1, inP_mk ?_, by simp [badAt]⟩
    have q1 := inB_iff.1 hcar.1
    have q2 := inB_iff.1 hcar.2
    dsimp only
    omega
  have hall : ∀ q ∈ freeL x.ps ++ [(⟨x.nx, f, t, sh, ca, 0, 0⟩ : Pe)], (1 ≤ q.id ∧ q.id ≤ x.nx) ∧ Hs.persC h q = 0 := by
    intro q hq
    rcases List.mem_append.1 hq with hq | hq
    · have := hid q ((freeL_sub x.ps).subset hq)
      exact ⟨by omega, this.2⟩
    · rw [List.mem_singleton.1 hq]
      exact ⟨⟨n1, Int.le_refl _⟩, hnew⟩
  have hinc2 : (freeL x.ps ++ [(⟨x.nx, f, t, sh, ca, 0, 0⟩ : Pe)]).Pairwise (fun p q => p.id < q.id) := by
    rw [List.pairwise_append]
    refine ⟨hinc.sublist (freeL_sub x.ps), List.pairwise_singleton _ _, ?_⟩
    intro p hp q hq
    rw [List.mem_singleton.1 hq]
    have := hid p ((freeL_sub x.ps).subset hp)
    show p.id < x.nx
    omega
  refine ⟨k.hf, by show 1 ≤ x.nx + 1; omega, by show x.nx + 1 ≤ _; omega, ?_, ?_, ?_, ?_⟩
  · show (freeL x.ps ++ [(⟨x.nx, f, t, sh, ca, 0, 0⟩ : Pe)]).length ≤ 60
    rw [List.length_append, hfl]
    simp only [List.length_singleton]
    split <;> omega
  · intro j q hq
    have hm := hall q (List.mem_of_getElem? hq)
    refine pers_iff.2 ⟨inB_iff.2 ⟨hm.1.1, by show q.id ≤ x.nx + 1 - 1; omega⟩, ?_, hm.2⟩
    exact ps_of_inc hinc2 (fun q hq => (hall q hq).1.1) j q hq
  · show (cnt 0 (-1) 0 (freeL x.ps ++ [(⟨x.nx, f, t, sh, ca, 0, 0⟩ : Pe)]) : Int) ≤ h.qu
    rw [cnt_add]
    omega
  · intro i hi
    have := k.ld i hi
    have := cnt_ride x.ps x.nx f t sh ca ((i / 2 : Nat) : Int) ((i % 2 : Nat) : Int)
    show (cnt 1 ((i / 2 : Nat) : Int) ((i % 2 : Nat) : Int) (freeL x.ps ++ [(⟨x.nx, f, t, sh, ca, 0, 0⟩ : Pe)]) : Int) ≤ h.ld
    omega
/-- What a law asks of a call that was taken. -/
theorem calls_ok {h : Hs} {nx : Int} {l : List Pe} {f t sh ca : Int} (e : Hs.addK h ⟨nx, l⟩ f t sh ca = 0) :
    ∃ m : List Pe, Hs.addI h ⟨nx, l⟩ f t sh ca = nx ∧ Hs.addV h ⟨nx, l⟩ f t sh ca = ⟨nx + 1, m⟩ ∧ (∃ n, m = n ++ [(⟨nx, f, t, sh, ca, 0, 0⟩ : Pe)]) ∧ m.length ≤ 60 ∧ Hs.led h ⟨nx, l⟩ = 0 ∧ Hs.led h ⟨nx + 1, m⟩ = 0 ∧ Hs.led h ⟨nx + 1, m.map dropP⟩ = 0 ∧ cnt 0 (-1) 0 m = cnt 0 (-1) 0 l + 1 := by
  have hled : Hs.led h ⟨nx, l⟩ = 0 := by
    unfold Hs.addK at e
    by_cases q : Hs.led h ⟨nx, l⟩ = 0
    · exact q
    · rw [if_neg q] at e; exact e
  have hC : Hs.addC h ⟨nx, l⟩ f t sh ca = 0 := by unfold Hs.addK at e; rw [if_pos hled] at e; exact e
  have k2 := led_add (led_zero_iff.1 hled) f t sh ca hC
  refine ⟨freeL l ++ [(⟨nx, f, t, sh, ca, 0, 0⟩ : Pe)], by unfold Hs.addI; rw [if_pos e], by unfold Hs.addV; rw [if_pos e], ⟨_, rfl⟩, k2.len, hled, led_zero_iff.2 k2, led_zero_iff.2 (led_drop k2), cnt_add l nx f t sh ca⟩
end Go.Proofs.Ytcjfaimhggckmaa
