/-
  A text cut at a byte, its words and its numbers, in plain: what the library's pieces, fields and numerals are.
-/
import Derived.Lib.SplitLaws
import Derived.Lib.FieldsP
import Derived.Lib.MapLaws
import Derived.Lib.ParseIntB
namespace Go.Proofs.YtoacnglcneliiaaGreatDoor
open Go
set_option linter.unusedSimpArgs false
set_option linter.unusedVariables false

/-- The pieces from place f on, i being looked at, k bytes still to come. -/
def cutF (s : ByteArray) (c : UInt8) : Nat → Nat → Nat → List ByteArray
  | 0, f, i => [s.extract f i]
  | k + 1, f, i => if s.get! i = c then s.extract f i :: cutF s c k (i + 1) (i + 1) else cutF s c k f (i + 1)
def cutS (s : ByteArray) (c : UInt8) : List ByteArray := cutF s c s.size 0 0
def neB (b : ByteArray) : Bool := b.size != 0
def wordsS (s : ByteArray) : List ByteArray := (cutS s 32).filter neB

theorem cutF_hit (s : ByteArray) (c : UInt8) (k f i : Nat) (h : s.get! i = c) : cutF s c (k + 1) f i = s.extract f i :: cutF s c k (i + 1) (i + 1) := by
  show (if s.get! i = c then _ else _) = _
  rw [if_pos h]
theorem cutF_miss (s : ByteArray) (c : UInt8) (k f i : Nat) (h : ¬ s.get! i = c) : cutF s c (k + 1) f i = cutF s c k f (i + 1) := by
  show (if s.get! i = c then _ else _) = _
  rw [if_neg h]
theorem cutF_ne (s : ByteArray) (c : UInt8) : ∀ (k f i : Nat), cutF s c k f i ≠ []
  | 0, _, _ => by simp [cutF]
  | k + 1, f, i => by
    unfold cutF
    split
    · simp
    · exact cutF_ne s c k f (i + 1)
theorem cutF_len (s : ByteArray) (c : UInt8) : ∀ (k f i : Nat), (cutF s c k f i).length ≤ k + 1
  | 0, _, _ => by simp [cutF]
  | k + 1, f, i => by
    unfold cutF
    split
    · have := cutF_len s c k (i + 1) (i + 1)
      simp only [List.length_cons]; omega
    · have := cutF_len s c k f (i + 1)
      omega
theorem cutF_size (s : ByteArray) (c : UInt8) : ∀ (k f i : Nat), ∀ x ∈ cutF s c k f i, x.size ≤ s.size
  | 0, f, i, x, hx => by
    simp [cutF] at hx; subst hx; simp [ByteArray.size_extract]; omega
  | k + 1, f, i, x, hx => by
    unfold cutF at hx
    split at hx
    · rcases List.mem_cons.1 hx with h | h
      · subst h; simp [ByteArray.size_extract]; omega
      · exact cutF_size s c k _ _ x h
    · exact cutF_size s c k _ _ x hx

/-! ### over lists -/
def cutG (c : UInt8) : List UInt8 → List UInt8 → List (List UInt8)
  | p, [] => [p]
  | p, x :: t => if x = c then p :: cutG c [] t else cutG c (p ++ [x]) t
theorem cutG_miss (c x : UInt8) (p t : List UInt8) (h : ¬ x = c) : cutG c p (x :: t) = cutG c (p ++ [x]) t := by
  show (if x = c then _ else _) = _
  rw [if_neg h]
def preC (q : List UInt8) : List (List UInt8) → List (List UInt8)
  | [] => []
  | h :: r => (q ++ h) :: r
theorem cutG_pre (c : UInt8) (q : List UInt8) : ∀ (t p : List UInt8), cutG c (q ++ p) t = preC q (cutG c p t)
  | [], p => rfl
  | x :: t, p => by
    unfold cutG
    split
    · rfl
    · rw [List.append_assoc]; exact cutG_pre c q t (p ++ [x])
theorem index_cons_ne (b c : UInt8) (l : List UInt8) (h : b ≠ c) : Lib.index (b :: l) [c] = if Lib.index l [c] == -1 then -1 else Lib.index l [c] + 1 := by
  have hp : ([c] : List UInt8).isPrefixOf (b :: l) = false := by simp [List.isPrefixOf, Ne.symm h]
  rw [Lib.index, hp]; simp
theorem index_cons_eq (c : UInt8) (l : List UInt8) : Lib.index (c :: l) [c] = 0 := by
  rw [Lib.index]; simp [List.isPrefixOf]
theorem splitK_ne (b c : UInt8) (h : b ≠ c) : ∀ (n : Nat) (l : List UInt8), Lib.splitK [c] 0 n (b :: l) = preC [b] (Lib.splitK [c] 0 n l)
  | 0, l => rfl
  | n + 1, l => by
    unfold Lib.splitK
    rw [index_cons_ne b c l h]
    by_cases hm : Lib.index l [c] = -1
    · simp [hm, preC]
    · have hge := Lib.index_ge l [c]
      obtain ⟨j, hj⟩ : ∃ j : Nat, Lib.index l [c] = j := ⟨(Lib.index l [c]).toNat, by omega⟩
      have hb : (Lib.index l [c] == -1) = false := by simpa using hm
      have hb2 : ((j : Int) + 1 == -1) = false := by simp; omega
      have hb3 : ((j : Int) == -1) = false := by simp
      rw [hj]
      have e1 : ((j : Int) + 1).toNat = j + 1 := by omega
      simp only [hb3, hb2, Bool.false_eq_true, if_false, e1, Int.toNat_natCast, Nat.add_zero, List.take_succ_cons, preC, List.length_singleton, List.drop_succ_cons]
      rfl
theorem splitK_cut (c : UInt8) : ∀ (l : List UInt8), Lib.splitK [c] 0 (Lib.count l [c]) l = cutG c [] l
  | [] => by rw [Lib.count_miss (by rw [Lib.index]; rfl)]; rfl
  | b :: l => by
    by_cases h : b = c
    · subst h
      rw [Lib.count_cons_eq, Nat.add_comm]
      unfold Lib.splitK cutG
      rw [index_cons_eq]
      simp only [show ((0 : Int) == -1) = false from rfl, Bool.false_eq_true, if_false, if_true]
      have := splitK_cut b l
      simpa using this
    · rw [Lib.count_cons_ne b c l h, splitK_ne b c h, splitK_cut c l]
      rw [cutG_miss c b [] l h]
      exact (cutG_pre c [b] l []).symm

theorem get_eq (s : ByteArray) (i : Nat) (h : i < s.size) : s.get! i = s.data[i]'h := by
  cases s with
  | mk d =>
    have hd : i < d.size := h
    simp [ByteArray.get!, hd]
theorem get_list (s : ByteArray) (i : Nat) (h : i < s.size) : s.data.toList.drop i = s.get! i :: s.data.toList.drop (i + 1) := by
  have hl : i < s.data.toList.length := by simpa using h
  rw [List.drop_eq_getElem_cons hl, get_eq s i h]
  simp
theorem piece_data (s : ByteArray) (f i : Nat) : (s.extract f i).data.toList = (s.data.toList.drop f).take (i - f) := by
  rw [Lib.extract_data]
theorem cutF_data (s : ByteArray) (c : UInt8) : ∀ (k f i : Nat), k + i = s.size → f ≤ i → (cutF s c k f i).map (·.data.toList) = cutG c ((s.data.toList.drop f).take (i - f)) (s.data.toList.drop i)
  | 0, f, i, hk, hf => by
    have : s.data.toList.drop i = [] := List.drop_eq_nil_of_le (by simp; show s.size ≤ i; omega)
    rw [this]
    simp [cutF, cutG, piece_data]
  | k + 1, f, i, hk, hf => by
    have hi : i < s.size := by omega
    rw [get_list s i hi]
    unfold cutF cutG
    split
    · rw [List.map_cons, cutF_data s c k (i + 1) (i + 1) (by omega) (Nat.le_refl _), piece_data]
      simp
    · rw [cutF_data s c k f (i + 1) (by omega) (by omega)]
      congr 1
      rw [show i + 1 - f = (i - f) + 1 by omega, List.take_add_one]
      congr 1
      rw [List.getElem?_drop, show f + (i - f) = i by omega]
      have := congrArg List.head? (get_list s i hi)
      rw [List.head?_drop] at this
      rw [this]
      rfl
theorem data_inj : ∀ (a b : List ByteArray), a.map (·.data.toList) = b.map (·.data.toList) → a = b
  | [], [], _ => rfl
  | [], _ :: _, h => by simp at h
  | _ :: _, [], h => by simp at h
  | x :: a, y :: b, h => by
    simp only [List.map_cons, List.cons.injEq] at h
    obtain ⟨h1, h2⟩ := h
    have hd : x.data = y.data := by
      have := congrArg List.toArray h1
      simpa using this
    have hx : x = y := by cases x; cases y; simp_all
    rw [hx, data_inj a b h2]
/-- THE LIBRARY'S PIECES ARE THE TEXT CUT. -/
theorem split_cut (s : ByteArray) (c : UInt8) : Lib.splitB ⟨#[c]⟩ 0 (Lib.countB s ⟨#[c]⟩) s = cutS s c := by
  apply data_inj
  rw [Lib.splitB_data]
  unfold cutS
  rw [cutF_data s c s.size 0 0 (by omega) (Nat.le_refl _)]
  exact splitK_cut c s.data.toList
theorem count_cut (s : ByteArray) (c : UInt8) : Lib.countB s ⟨#[c]⟩ + 1 = (cutS s c).length := by
  rw [← split_cut, Lib.splitB_all ⟨#[c]⟩ (Nat.le_refl 1) 0 _ s rfl]

/-! ### words -/
theorem dec_space (s : ByteArray) (pos : Nat) (h : pos < s.size) :
    (s.get! pos = 32 ∧ Utf8.decode s pos = (32, 1)) ∨ ((Utf8.decode s pos).1 ≠ 32 ∧ 1 ≤ (Utf8.decode s pos).2 ∧ pos + (Utf8.decode s pos).2 ≤ s.size ∧ ∀ j, j < (Utf8.decode s pos).2 → s.get! (pos + j) ≠ 32) := by
  have hn : 1 ≤ s.size - pos := by omega
  have hw := Lib.decodeN_le_n' (s.size - pos) (s.get! pos).toNat (s.get! (pos + 1)).toNat (s.get! (pos + 2)).toNat (s.get! (pos + 3)).toNat hn
  rw [← Lib.decode_at] at hw
  have ne32 : ∀ x : UInt8, x.toNat / 64 = 2 → x ≠ 32 := by intro x hx e; subst e; simp at hx
  by_cases h0 : (s.get! pos).toNat < 128
  · have e : Utf8.decode s pos = ((s.get! pos).toNat, 1) := by rw [Lib.decode_at]; unfold Lib.decodeN; rw [if_pos h0]
    by_cases h32 : s.get! pos = 32
    · left; refine ⟨h32, ?_⟩; rw [e, h32]; rfl
    · right
      rw [e]
      refine ⟨fun e2 => h32 ?_, Nat.le_refl _, by simp only; omega, ?_⟩
      · exact UInt8.toNat_inj.1 e2
      · intro j hj
        obtain rfl : j = 0 := by simp only at hj; omega
        exact h32
  · right
    have hp : s.get! pos ≠ 32 := by intro e; rw [e] at h0; simp at h0
    rw [Lib.decode_at] at hw ⊢
    rcases Lib.decodeN_shape (s.size - pos) (s.get! pos).toNat (s.get! (pos + 1)).toNat (s.get! (pos + 2)).toNat (s.get! (pos + 3)).toNat with ⟨c, e⟩ | ⟨c1, c2, c3, cv, e⟩ | ⟨c1, c2, c3, c4, cv, cs, e⟩ | ⟨c1, c2, c3, c4, c5, cv, cw, e⟩ | e
    · omega
    · rw [e] at hw ⊢
      refine ⟨by simp only; omega, by simp only; omega, by simp only at hw ⊢; omega, ?_⟩
      intro j hj
      rcases j with _ | _ | j
      · exact hp
      · exact ne32 _ c3
      · simp only at hj; omega
    · rw [e] at hw ⊢
      refine ⟨by simp only; omega, by simp only; omega, by simp only at hw ⊢; omega, ?_⟩
      intro j hj
      rcases j with _ | _ | _ | j
      · exact hp
      · exact ne32 _ (by omega)
      · exact ne32 _ (by omega)
      · simp only at hj; omega
    · rw [e] at hw ⊢
      refine ⟨by simp only; omega, by simp only; omega, by simp only at hw ⊢; omega, ?_⟩
      intro j hj
      rcases j with _ | _ | _ | _ | j
      · exact hp
      · exact ne32 _ (by omega)
      · exact ne32 _ (by omega)
      · exact ne32 _ (by omega)
      · simp only at hj; omega
    · rw [e] at hw ⊢
      refine ⟨by simp only; omega, by simp only; omega, by simp only at hw ⊢; omega, ?_⟩
      intro j hj
      obtain rfl : j = 0 := by simp only at hj; omega
      exact hp
theorem cutF_skip (s : ByteArray) (c : UInt8) (f : Nat) : ∀ (K k i : Nat), (∀ j, j < K → s.get! (i + j) ≠ c) → cutF s c (K + k) f i = cutF s c k f (i + K)
  | 0, k, i, _ => by simp
  | K + 1, k, i, h => by
    rw [show K + 1 + k = (K + k) + 1 by omega]
    have h0 : ¬ s.get! i = c := h 0 (by omega)
    rw [cutF_miss s c (K + k) f i h0, cutF_skip s c f K k (i + 1) (fun j hj => by have := h (j + 1) (by omega); rwa [show i + 1 + j = i + (j + 1) by omega]), show i + 1 + K = i + (K + 1) by omega]
def isSp (r : Nat) : Bool := r == 32
theorem spans_cut (s : ByteArray) : ∀ (f pos : Nat) (st : Option Nat) (acc : List (Nat × Nat)), s.size ≤ pos + f → pos ≤ s.size → (∀ a, st = some a → a < pos) →
    (Lib.closeSpans s (Lib.spansFromP isSp s f pos st acc)).map (fun x => s.extract x.1 x.2) = acc.map (fun x => s.extract x.1 x.2) ++ (cutF s 32 (s.size - pos) (st.getD pos) pos).filter neB := by
  intro f
  induction f with
  | zero =>
    intro pos st acc h hp hst
    obtain rfl : pos = s.size := by omega
    rw [Nat.sub_self]
    cases st with
    | none => simp [Lib.spansFromP, Lib.closeSpans, cutF, neB]
    | some a => have := hst a rfl; simp [Lib.spansFromP, Lib.closeSpans, cutF, neB, show s.size - a ≠ 0 by omega]
  | succ f ih =>
    intro pos st acc h hp hst
    by_cases hlt : pos < s.size
    · rcases dec_space s pos hlt with ⟨h32, hd⟩ | ⟨hr, hk1, hkn, hj⟩
      · have hc : cutF s 32 (s.size - pos) (st.getD pos) pos = s.extract (st.getD pos) pos :: cutF s 32 (s.size - (pos + 1)) (pos + 1) (pos + 1) := by
          obtain ⟨m, hm⟩ : ∃ m, s.size - pos = m + 1 := ⟨s.size - pos - 1, by omega⟩
          rw [hm, show s.size - (pos + 1) = m by omega]
          exact cutF_hit s 32 m _ pos h32
        rw [hc]
        simp only [Lib.spansFromP, if_pos hlt, hd, isSp, beq_self_eq_true, if_true]
        cases st with
        | none =>
          have := ih (pos + 1) none acc (by omega) (by omega) (fun a h => by cases h)
          simp only [Option.getD_none] at this ⊢
          rw [this]
          simp [neB]
        | some a =>
          have ha := hst a rfl
          have := ih (pos + 1) none (acc ++ [(a, pos)]) (by omega) (by omega) (fun a h => by cases h)
          simp only [Option.getD_none, Option.getD_some] at this ⊢
          rw [this]
          simp [neB, ByteArray.size_extract, show min pos s.size - a ≠ 0 by omega]
      · obtain ⟨K, hK⟩ : ∃ K, (Utf8.decode s pos).2 = K := ⟨_, rfl⟩
        obtain ⟨R, hR⟩ : ∃ R, (Utf8.decode s pos).1 = R := ⟨_, rfl⟩
        rw [hK] at hk1 hkn hj
        rw [hR] at hr
        have hp2 : isSp R = false := by simp [isSp, hr]
        simp only [Lib.spansFromP, if_pos hlt, hR, hK, hp2, Bool.false_eq_true, if_false]
        have hc : ∀ g, cutF s 32 (s.size - pos) g pos = cutF s 32 (s.size - (pos + K)) g (pos + K) := by
          intro g
          have := cutF_skip s 32 g K (s.size - (pos + K)) pos hj
          rw [show K + (s.size - (pos + K)) = s.size - pos by omega] at this
          exact this
        rw [hc]
        cases st with
        | none => exact ih (pos + K) (some pos) acc (by omega) hkn (fun a h => by cases h; omega)
        | some a => exact ih (pos + K) (some a) acc (by omega) hkn (fun b h => by cases h; have := hst a rfl; omega)
    · obtain rfl : pos = s.size := by omega
      rw [Lib.spansFromP_end _ s _ _ _ _ hlt, Nat.sub_self]
      cases st with
      | none => simp [Lib.closeSpans, cutF, neB]
      | some a => have := hst a rfl; simp [Lib.closeSpans, cutF, neB, show s.size - a ≠ 0 by omega]
/-- THE LIBRARY'S FIELDS ARE THE PIECES THAT ARE NOT EMPTY. -/
theorem fields_words (s : ByteArray) : Lib.goFieldsP isSp s = wordsS s := by
  unfold Lib.goFieldsP Lib.spansOfP wordsS cutS
  have := spans_cut s s.size 0 none [] (by omega) (Nat.zero_le _) (fun a h => by cases h)
  simpa using this
theorem words_size (s : ByteArray) : ∀ x ∈ wordsS s, x.size ≤ s.size ∧ x.size ≠ 0 := by
  intro x hx
  obtain ⟨h1, h2⟩ := List.mem_filter.1 hx
  exact ⟨cutF_size s 32 _ _ _ x h1, by simpa [neB] using h2⟩
theorem words_len (s : ByteArray) : (wordsS s).length ≤ s.size + 1 :=
  Nat.le_trans (List.length_filter_le _ _) (cutF_len s 32 _ _ _)

/-! ### numbers -/
def isDg (b : UInt8) : Prop := 48 ≤ b.toNat ∧ b.toNat ≤ 57
instance (b : UInt8) : Decidable (isDg b) := inferInstanceAs (Decidable (_ ∧ _))
def numF (s : ByteArray) : Nat → Nat → Nat → Option Nat
  | 0, _, n => some n
  | k + 1, i, n => if isDg (s.get! i) then numF s k (i + 1) (n * 10 + ((s.get! i).toNat - 48)) else none
def numS (s : ByteArray) : Option Nat := if s.size < 1 ∨ 9 < s.size then none else numF s s.size 0 0
theorem numF_lt (s : ByteArray) : ∀ (k i n j u : Nat), n < 10 ^ j → numF s k i n = some u → u < 10 ^ (j + k)
  | 0, i, n, j, u, hn, h => by simp [numF] at h; subst h; simpa using hn
  | k + 1, i, n, j, u, hn, h => by
    unfold numF at h
    split at h
    · rename_i hd
      have := numF_lt s k (i + 1) _ (j + 1) u (by rw [Nat.pow_succ]; have := hd.2; omega) h
      rwa [show j + 1 + k = j + (k + 1) by omega] at this
    · cases h
theorem numS_lt (s : ByteArray) (u : Nat) (h : numS s = some u) : u < 1000000000 := by
  unfold numS at h
  split at h
  · cases h
  · rename_i hs
    have := numF_lt s s.size 0 0 0 u (by decide) h
    exact Nat.lt_of_lt_of_le this (Nat.pow_le_pow_right (by decide) (by omega) : 10 ^ (0 + s.size) ≤ 10 ^ 9)
theorem parse_numF (s : ByteArray) : ∀ (k i n j : Nat), k + i = s.size → n < 10 ^ j → j + k ≤ 9 → Lib.parseUintM (2 ^ 64 - 1) n (s.data.toList.drop i) = (match numF s k i n with | some u => .ok u | none => .«syntax»)
  | 0, i, n, j, hk, hn, hj => by
    have : s.data.toList.drop i = [] := List.drop_eq_nil_of_le (by simp; show s.size ≤ i; omega)
    rw [this]; rfl
  | k + 1, i, n, j, hk, hn, hj => by
    have hi : i < s.size := by omega
    have hp : (10 : Nat) ^ j ≤ 10 ^ 9 := Nat.pow_le_pow_right (by decide) (by omega)
    rw [get_list s i hi]
    unfold Lib.parseUintM numF
    by_cases hd : isDg (s.get! i)
    · have hd2 := hd.2
      rw [if_pos (show 48 ≤ (s.get! i).toNat ∧ (s.get! i).toNat ≤ 57 from hd), if_pos hd, if_neg (by omega), if_neg (by omega)]
      exact parse_numF s k (i + 1) _ (j + 1) (by omega) (by rw [Nat.pow_succ]; omega) (by omega)
    · rw [if_neg (show ¬ (48 ≤ (s.get! i).toNat ∧ (s.get! i).toNat ≤ 57) from hd), if_neg hd]
/-- THE LIBRARY'S NUMERALS OF AT MOST NINE DIGITS. -/
theorem parse_num (s : ByteArray) (h9 : s.size ≤ 9) : Lib.parseUintB 64 s.data.toList = (match numS s with | some u => .ok u | none => .«syntax») := by
  unfold Lib.parseUintB numS
  by_cases h0 : s.size = 0
  · have : s.data.toList = [] := List.eq_nil_of_length_eq_zero (by simpa using h0)
    rw [if_pos this, if_pos (by omega)]
  · have : s.data.toList ≠ [] := by
      intro e; apply h0
      have := congrArg List.length e
      simpa using this
    rw [if_neg this, if_neg (by omega)]
    exact parse_numF s s.size 0 0 0 (by omega) (by decide) (by omega)
end Go.Proofs.YtoacnglcneliiaaGreatDoor
