/-
  Numbers and events as text: the bytes, in plain.
-/
import Derived.Test.YtoacnglcneliiaaGreatDoorEvt
import Derived.Lib.ItoaMem
import Derived.Lib.ItoaNum
namespace Go.Proofs.YtoacnglcneliiaaGreatDoor
open Go.RowKit Pl
set_option linter.unusedSimpArgs false
set_option linter.unusedVariables false

/-- A number that an int64 holds. -/
def i64N (n : Int) : Prop := -9223372036854775808 ≤ n ∧ n ≤ 9223372036854775807
/-- A number's decimal text. -/
def itB (n : Int) : ByteArray := ⟨(Lib.itoa n).toArray⟩
def dgB (u : Nat) : ByteArray := ⟨(Lib.decDigits u).toArray⟩
theorem nDigits_le : ∀ (k u : Nat), u < 10 ^ k → 0 < k → Lib.nDigits u ≤ k := by
  intro k
  induction k with
  | zero => intro u _ h; omega
  | succ k ih =>
    intro u hu _
    by_cases h : u < 10
    · rw [Lib.nDigits_small h]; omega
    · rw [Lib.nDigits, dif_neg h]
      have hk : 0 < k := by
        rcases Nat.eq_zero_or_pos k with e | e
        · subst e; simp at hu; omega
        · exact e
      have := ih (u / 10) (by rw [Nat.pow_succ] at hu; omega) hk
      omega
theorem dg_len (u : Nat) (h : u < 10 ^ 20) : (Lib.decDigits u).length ≤ 20 := by
  rw [Lib.decDigits_length]
  exact nDigits_le 20 u h (by omega)
theorem dgB_size (u : Nat) (h : u < 10 ^ 20) : (dgB u).size ≤ 20 := by
  show (Lib.decDigits u).toArray.size ≤ 20
  simpa using dg_len u h
theorem itB_size {n : Int} (h : i64N n) : (itB n).size ≤ 21 := by
  show (Lib.itoa n).toArray.size ≤ 21
  obtain ⟨h0, h1⟩ := h
  have p : (18446744073709551616 : Nat) ≤ 10 ^ 20 := by decide
  unfold Lib.itoa
  split
  · have := dg_len n.natAbs (by omega)
    simp
    omega
  · have := dg_len n.toNat (by omega)
    simp
    omega
theorem itB_neg {n : Int} (h : n < 0) : itB n = ⟨#[45]⟩ ++ dgB n.natAbs := by
  apply ByteArray.ext
  simp [itB, dgB, Lib.itoa, h, ByteArray.data_append]
theorem itB_pos {n : Int} (h : ¬ n < 0) : itB n = dgB n.toNat := by
  simp [itB, dgB, Lib.itoa, h]
theorem dgB_one {u : Nat} (h : u < 10) : dgB u = ⟨#[UInt8.ofNat (48 + u)]⟩ := by
  unfold dgB
  rw [Lib.decDigits_one h]
theorem dgB_more {u : Nat} (h : ¬ u < 10) : dgB u = dgB (u / 10) ++ ⟨#[UInt8.ofNat (48 + u % 10)]⟩ := by
  apply ByteArray.ext
  unfold dgB
  rw [Lib.decDigits, dif_neg h]
  simp [ByteArray.data_append]
/-- Numbers behind a word, a blank ahead of each. -/
def phr (w : ByteArray) (l : List Int) : ByteArray := l.foldl (fun a n => a ++ ((⟨#[32]⟩ : ByteArray) ++ itB n)) w
theorem phr_snoc {l : List Int} {k : Nat} {n : Int} (h : l[k]? = some n) (w : ByteArray) : phr w (l.take (k + 1)) = phr w (l.take k) ++ ((⟨#[32]⟩ : ByteArray) ++ itB n) := by
  unfold phr
  rw [List.take_add_one, h, List.foldl_append]
  rfl
theorem phr_app (x : ByteArray) (l : List Int) : ∀ y, phr (x ++ y) l = x ++ phr y l := by
  induction l with
  | nil => intro y; rfl
  | cons n l ih =>
    intro y
    show phr ((x ++ y) ++ _) l = x ++ phr (y ++ _) l
    rw [ByteArray.append_assoc]
    exact ih _
theorem phr_size (l : List Int) (h : ∀ n ∈ l, i64N n) : ∀ w, (phr w l).size ≤ w.size + 22 * l.length := by
  induction l with
  | nil => intro w; exact Nat.le_refl _
  | cons n l ih =>
    intro w
    have a := itB_size (h n (List.mem_cons_self ..))
    have b := ih (fun m hm => h m (List.mem_cons_of_mem _ hm)) (w ++ ((⟨#[32]⟩ : ByteArray) ++ itB n))
    have c : (w ++ ((⟨#[32]⟩ : ByteArray) ++ itB n)).size = w.size + (1 + (itB n).size) := by rw [ByteArray.size_append, ByteArray.size_append]; rfl
    rw [c] at b
    show (phr (w ++ _) l).size ≤ _
    simp only [List.length_cons]
    omega
theorem take_i64 {l : List Int} (h : ∀ n ∈ l, i64N n) (k : Nat) : ∀ n ∈ l.take k, i64N n := fun n hn => h n (List.mem_of_mem_take hn)
theorem phr_take {l : List Int} (h : ∀ n ∈ l, i64N n) (w : ByteArray) (k : Nat) : (phr w (l.take k)).size ≤ w.size + 22 * l.length := by
  have a := phr_size _ (take_i64 h k) w
  have b : (l.take k).length ≤ l.length := by rw [List.length_take]; omega
  omega
/-- The word of an event, how many numbers stand behind it, its line. -/
def evW (k : Int) : ByteArray := if k = 1 then ⟨#[99, 97, 108, 108]⟩ else if k = 2 then ⟨#[98, 111, 97, 114, 100]⟩ else if k = 3 then ⟨#[116, 104, 101, 114, 101]⟩ else if k = 4 then ⟨#[111, 117, 116]⟩ else if k = 5 then ⟨#[103, 111, 110, 101]⟩ else ⟨#[]⟩
def evN (k : Int) : Nat := if k = 1 then 3 else if k = 5 then 1 else 2
theorem evW_size (k : Int) : (evW k).size ≤ 5 := by
  unfold evW
  repeat' split
  all_goals decide
theorem evN_le (k : Int) : 1 ≤ evN k ∧ evN k ≤ 3 := by
  unfold evN
  repeat' split
  all_goals omega
def evLn (e : Ev) : ByteArray := (itB e.tk ++ ⟨#[32]⟩) ++ (phr (evW e.kd) ([e.id, e.fl, e.tw].take (evN e.kd)) ++ ⟨#[10]⟩)
def evTx (l : List Ev) : ByteArray := l.foldl (fun a e => a ++ evLn e) ⟨#[]⟩
structure EvI (e : Ev) : Prop where
  tk : i64N e.tk
  id : i64N e.id
  fl : i64N e.fl
  tw : i64N e.tw
theorem EvI.all {e : Ev} (h : EvI e) : ∀ n ∈ [e.id, e.fl, e.tw], i64N n := by
  intro n hn
  simp only [List.mem_cons, List.not_mem_nil, or_false] at hn
  rcases hn with rfl | rfl | rfl
  · exact h.id
  · exact h.fl
  · exact h.tw
theorem evP_size {e : Ev} (h : EvI e) : (phr (evW e.kd) ([e.id, e.fl, e.tw].take (evN e.kd))).size ≤ 71 := by
  have a := phr_take h.all (evW e.kd) (evN e.kd)
  have b := evW_size e.kd
  simp only [List.length_cons, List.length_nil] at a
  omega
theorem evLn_size {e : Ev} (h : EvI e) : (evLn e).size ≤ 100 := by
  have a := evP_size h
  have b := itB_size h.tk
  unfold evLn
  rw [ByteArray.size_append, ByteArray.size_append, ByteArray.size_append]
  show (itB e.tk).size + 1 + (_ + 1) ≤ 100
  omega
theorem evTx_snoc {l : List Ev} {k : Nat} {e : Ev} (h : l[k]? = some e) : evTx (l.take (k + 1)) = evTx (l.take k) ++ evLn e := by
  unfold evTx
  rw [List.take_add_one, h, List.foldl_append]
  rfl
theorem evTx_size (l : List Ev) (h : ∀ e ∈ l, EvI e) : ∀ w, (l.foldl (fun a e => a ++ evLn e) w).size ≤ w.size + 100 * l.length := by
  induction l with
  | nil => intro w; exact Nat.le_refl _
  | cons n l ih =>
    intro w
    have a := evLn_size (h n (List.mem_cons_self ..))
    have b := ih (fun m hm => h m (List.mem_cons_of_mem _ hm)) (w ++ evLn n)
    rw [ByteArray.size_append] at b
    show (List.foldl _ (w ++ _) l).size ≤ _
    simp only [List.length_cons]
    omega
theorem evTx_take {l : List Ev} (h : ∀ e ∈ l, EvI e) (hl : l.length ≤ 200) (k : Nat) : (evTx (l.take k)).size ≤ 20000 := by
  have a := evTx_size (l.take k) (fun e he => h e (List.mem_of_mem_take he)) ⟨#[]⟩
  have b : (l.take k).length ≤ l.length := by rw [List.length_take]; omega
  have c : (⟨#[]⟩ : ByteArray).size = 0 := rfl
  unfold evTx
  omega
/-- The model's way to the same line. -/
theorem evLn_model (e : Ev) : phr ((itB e.tk ++ ⟨#[32]⟩) ++ evW e.kd) ([e.id, e.fl, e.tw].take (evN e.kd)) ++ ⟨#[10]⟩ = evLn e := by
  rw [phr_app, ByteArray.append_assoc]
  rfl
end Go.Proofs.YtoacnglcneliiaaGreatDoor
