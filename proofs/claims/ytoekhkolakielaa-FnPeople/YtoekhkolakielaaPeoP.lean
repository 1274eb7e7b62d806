/-
  Who boards, alights and is let out, in plain: nobody is lost.
-/
import Derived.Test.YtoekhkolakielaaLedP
import Derived.Test.YtoekhkolakielaaLedJ
namespace Go.Proofs.Ytoekhkolakielaa
open Go.RowKit Pl
set_option linter.unusedSimpArgs false
set_option linter.unusedVariables false

theorem board_at (ld sh ca fl : Int) (l : List Pe) (k : Nat) : ∀ (i : Nat) p, l[i]? = some p → ∃ q, (boardS ld sh ca fl l k)[i]? = some q ∧ q.id = p.id ∧ q.fr = p.fr ∧ q.tw = p.tw := by
  induction k with
  | zero => intro i p hp; exact ⟨p, hp, rfl, rfl, rfl⟩
  | succ k ih =>
    intro i p hp
    obtain ⟨q, hq, e1, e2, e3⟩ := ih i p hp
    unfold boardS
    split
    case h_1 r hr =>
      split
      · by_cases c : i = k
        · subst c
          have e : r = q := Option.some.inj (hr.symm.trans hq)
          subst e
          exact ⟨boardP r, get_set hr, e1, e2, e3⟩
        · exact ⟨q, by rw [List.getElem?_set_ne (fun e => c e.symm)]; exact hq, e1, e2, e3⟩
      · exact ⟨q, hq, e1, e2, e3⟩
    case h_2 => exact ⟨q, hq, e1, e2, e3⟩
theorem cnt_sum {l : List Pe} (h : ∀ p ∈ l, 0 ≤ p.st ∧ p.st ≤ 4) : cnt 0 (-1) 0 l + cnt 1 (-1) 0 l + cnt 2 (-1) 0 l + cnt 3 (-1) 0 l + cnt 4 (-1) 0 l = l.length := by
  induction l with
  | nil => rfl
  | cons p l ih =>
    have q := ih (fun p hp => h p (List.mem_cons_of_mem _ hp))
    have b := h p (List.mem_cons_self ..)
    unfold cnt at q ⊢
    simp only [List.countP_cons, List.length_cons]
    rcases (show p.st = 0 ∨ p.st = 1 ∨ p.st = 2 ∨ p.st = 3 ∨ p.st = 4 by omega) with e | e | e | e | e <;> simp [isIn, e] <;> omega
theorem ride_le {h : Hs} {x : Lg} (k : LdOk h x) {sh ca : Int} (c0 : 0 ≤ sh ∧ sh ≤ 2 ∧ 0 ≤ ca ∧ ca ≤ 1) : (cnt 1 sh ca x.ps : Int) ≤ h.ld := by
  obtain ⟨a, b, c, d⟩ := c0
  rcases (show sh = 0 ∨ sh = 1 ∨ sh = 2 by omega) with rfl | rfl | rfl <;> rcases (show ca = 0 ∨ ca = 1 by omega) with rfl | rfl
  · exact k.ld 0 (by omega)
  · exact k.ld 1 (by omega)
  · exact k.ld 2 (by omega)
  · exact k.ld 3 (by omega)
  · exact k.ld 4 (by omega)
  · exact k.ld 5 (by omega)
theorem askd_other {h : Hs} {x y : Lg} {sh ca fl : Int} (hk : Hs.askd h x sh ca fl = 0) (hl : Hs.led h y = 0) : Hs.askd h y sh ca fl = 0 ∧ Hs.askd h y sh ca 0 = 0 := by
  unfold Hs.askd at hk ⊢
  split at hk
  case isFalse c => exact absurd hk c
  split at hk
  case isFalse => omega
  case isTrue c =>
    have q := inB_iff.1 c.2
    rw [if_pos hl, if_pos hl, if_pos c, if_pos ⟨c.1, inB_iff.2 ⟨by omega, by omega⟩⟩]
    exact ⟨rfl, rfl⟩
theorem askd_fl {h : Hs} {x : Lg} {sh ca fl : Int} (hk : Hs.askd h x sh ca fl = 0) : 0 ≤ fl ∧ fl ≤ h.fl - 1 := by
  unfold Hs.askd at hk
  split at hk
  case isFalse c => exact absurd hk c
  split at hk
  case isFalse => omega
  case isTrue c => exact inB_iff.1 c.2
/-- What is asked of each of the three ledgers. -/
structure Pk (h : Hs) (nx sh ca fl : Int) (n : Nat) (m : List Pe) : Prop where
  led : Hs.led h ⟨nx, m⟩ = 0
  len : m.length = n
  ask : Hs.askd h ⟨nx, m⟩ sh ca fl = 0
  ask0 : Hs.askd h ⟨nx, m⟩ sh ca 0 = 0
  sum : cnt 0 (-1) 0 m + cnt 1 (-1) 0 m + cnt 2 (-1) 0 m + cnt 3 (-1) 0 m + cnt 4 (-1) 0 m = n
  ld : ((riders sh ca m).length : Int) ≤ h.ld
theorem pk_of {h : Hs} {nx sh ca fl : Int} {x : Lg} {m : List Pe} {n : Nat} (hk : Hs.askd h x sh ca fl = 0) (k : LdOk h ⟨nx, m⟩) (hn : m.length = n) : Pk h nx sh ca fl n m := by
  have l0 := led_zero_iff.2 k
  obtain ⟨a1, a2⟩ := askd_other hk l0
  have c0 := askd_car hk
  refine ⟨l0, hn, a1, a2, ?_, ?_⟩
  · rw [← hn]
    refine cnt_sum (fun p hp => ?_)
    obtain ⟨j, hj⟩ := List.getElem?_of_mem hp
    exact led_pers l0 j p hj
  · rw [riders_cnt c0.1]
    exact ride_le k c0
theorem out_none (sh ca fl : Int) (l : List Pe) : riders sh ca (l.map (outP sh ca fl)) = [] := by
  unfold riders
  rw [List.map_eq_nil_iff, List.filter_eq_nil_iff]
  intro a ha
  obtain ⟨p, _, rfl⟩ := List.mem_map.1 ha
  unfold outP
  split
  · simp [isW]
  case isFalse c =>
    intro e
    refine c ?_
    simp only [isW, Bool.and_eq_true, beq_iff_eq] at e
    omega
/-- Boarding, alighting, letting out: the three ledgers are right, as long as before, and nobody is another. -/
theorem people_ok {h : Hs} {nx : Int} {l : List Pe} {sh ca fl : Int} (hk : Hs.askd h ⟨nx, l⟩ sh ca fl = 0) :
    Pk h nx sh ca fl l.length (boardS h.ld sh ca fl l l.length) ∧ Pk h nx sh ca fl l.length ((boardS h.ld sh ca fl l l.length).map (alightP sh ca fl)) ∧ Pk h nx sh ca fl l.length (((boardS h.ld sh ca fl l l.length).map (alightP sh ca fl)).map (outP sh ca fl)) ∧
    ∀ (i : Nat) p, l[i]? = some p → ∃ q, ((boardS h.ld sh ca fl l l.length).map (alightP sh ca fl))[i]? = some q ∧ q.id = p.id ∧ q.fr = p.fr ∧ q.tw = p.tw ∧ (q.st = 2 → q.pl = q.tw) := by
  have hled := askd_led hk
  have c0 := askd_car hk
  have f0 := askd_fl hk
  have k1 := led_boardN (led_zero_iff.1 hled) sh ca fl c0 l.length
  have k2 := led_alight k1 sh ca fl
  have k3 := led_out k2 sh ca fl f0.1 f0.2
  refine ⟨pk_of hk k1 (boardS_len ..), pk_of hk k2 (by rw [List.length_map]; exact boardS_len .. ), pk_of hk k3 (by rw [List.length_map, List.length_map]; exact boardS_len .. ), ?_⟩
  intro i p hp
  obtain ⟨q, hq, e1, e2, e3⟩ := board_at h.ld sh ca fl l l.length i p hp
  have hq2 : ((boardS h.ld sh ca fl l l.length).map (alightP sh ca fl))[i]? = some (alightP sh ca fl q) := by rw [List.getElem?_map, hq]; rfl
  have z : (alightP sh ca fl q).id = q.id ∧ (alightP sh ca fl q).fr = q.fr ∧ (alightP sh ca fl q).tw = q.tw := by unfold alightP; split <;> exact ⟨rfl, rfl, rfl⟩
  refine ⟨_, hq2, z.1.trans e1, z.2.1.trans e2, z.2.2.trans e3, fun s2 => ?_⟩
  have bad := (persC_iff.1 (pers_iff.1 (k2.ps i _ hq2)).2.2).2.2
  unfold badAt at bad
  simp only [Bool.or_eq_false_iff, Bool.and_eq_false_iff, beq_eq_false_iff_ne, bne_eq_false_iff_eq] at bad
  rcases bad.2 with b | b
  · exact absurd s2 b
  · exact b
end Go.Proofs.Ytoekhkolakielaa
