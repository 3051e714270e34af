/- Labels and their texts, plainly: cutting at a byte, strict decimals, the pieces of a label's text. -/
import Derived.Test.YtcpphobokdkkeaaDoorE
namespace Go.Proofs.YtcpphobokdkkeaaDoor

/-- what stands ahead of the first byte c and behind it, and whether it is there -/
def cutL (c : UInt8) : List UInt8 → List UInt8 × List UInt8 × Bool
  | [] => ([], [], false)
  | b :: l => if b = c then ([], l, true) else (b :: (cutL c l).1, (cutL c l).2.1, (cutL c l).2.2)

theorem cutL_hit (c : UInt8) : ∀ (k : Nat) (L : List UInt8), (∀ j, j < k → L[j]? ≠ some c) → L[k]? = some c → cutL c L = (L.take k, L.drop (k + 1), true) := by
  intro k
  induction k with
  | zero =>
    intro L _ h
    cases L with
    | nil => simp at h
    | cons b l => simp at h; subst h; simp [cutL]
  | succ k ih =>
    intro L h1 h2
    cases L with
    | nil => simp at h2
    | cons b l =>
      have hb : ¬ b = c := by have := h1 0 (by omega); simpa using this
      have := ih l (fun j hj => by have := h1 (j + 1) (by omega); simpa using this) (by simpa using h2)
      simp [cutL, hb, this]

theorem cutL_miss (c : UInt8) : ∀ (L : List UInt8), (∀ j, j < L.length → L[j]? ≠ some c) → cutL c L = (L, [], false) := by
  intro L
  induction L with
  | nil => intro _; rfl
  | cons b l ih =>
    intro h
    have hb : ¬ b = c := by have := h 0 (by simp); simpa using this
    have := ih (fun j hj => by have := h (j + 1) (by simpa using hj); simpa using this)
    simp [cutL, hb, this]

theorem cutL_join (c : UInt8) (L : List UInt8) : L = (cutL c L).1 ++ (if (cutL c L).2.2 = true then c :: (cutL c L).2.1 else []) := by
  induction L with
  | nil => rfl
  | cons b l ih =>
    by_cases hb : b = c
    · subst hb; simp [cutL]
    · have e : cutL c (b :: l) = (b :: (cutL c l).1, (cutL c l).2.1, (cutL c l).2.2) := by simp [cutL, hb]
      rw [e]
      simp only [List.cons_append, List.cons.injEq, true_and]
      exact ih

theorem cutL_none (c : UInt8) (L : List UInt8) (h : (cutL c L).2.2 = false) : (cutL c L).2.1 = [] := by
  induction L with
  | nil => rfl
  | cons b l ih =>
    by_cases hb : b = c
    · subst hb; simp [cutL] at h
    · simp [cutL, hb] at h ⊢; exact ih h

theorem cutL_len1 (c : UInt8) (L : List UInt8) : (cutL c L).1.length ≤ L.length := by
  have := congrArg List.length (cutL_join c L)
  rw [List.length_append] at this
  omega
theorem cutL_len2 (c : UInt8) (L : List UInt8) : (cutL c L).2.1.length ≤ L.length := by
  induction L with
  | nil => simp [cutL]
  | cons b l ih =>
    by_cases hb : b = c
    · subst hb; simp [cutL]
    · simp [cutL, hb]; omega

def digitB (b : UInt8) : Bool := decide (48 ≤ b.toNat) && decide (b.toNat ≤ 57)
/-- a strict decimal of at most ten digits -/
def okD (L : List UInt8) : Bool := decide (1 ≤ L.length) && decide (L.length ≤ 10) && (decide (L[0]? ≠ some 48) || decide (L.length ≤ 1)) && L.all digitB
def valL (L : List UInt8) : Nat := L.foldl (fun n b => n * 10 + (b.toNat - 48)) 0
theorem valL_snoc (L : List UInt8) (b : UInt8) : valL (L ++ [b]) = valL L * 10 + (b.toNat - 48) := by simp [valL]
theorem valL_lt : ∀ (L : List UInt8), L.all digitB = true → valL L < 10 ^ L.length := by
  intro L
  induction h : L.length generalizing L with
  | zero => intro _; have : L = [] := List.length_eq_zero_iff.1 h
            subst this; simp [valL]
  | succ n ih =>
    intro hd
    rcases List.eq_nil_or_concat L with rfl | ⟨l, b, rfl⟩
    · simp at h
    · rw [List.concat_eq_append] at *
      have hl : l.length = n := by simpa using h
      rw [valL_snoc]
      rw [List.all_append, Bool.and_eq_true] at hd
      have := ih l hl hd.1
      have hb := hd.2
      simp [digitB] at hb
      rw [Nat.pow_succ]
      omega
/-- the number that is read, or 0 -/
def numL (L : List UInt8) : Int := if okD L = true then (valL L : Int) else 0

/-- decimals of a number -/
def decL (n : Nat) : List UInt8 := if h : n < 10 then [UInt8.ofNat (48 + n)] else decL (n / 10) ++ [UInt8.ofNat (48 + n % 10)]
termination_by n
decreasing_by omega

theorem decL_small {n : Nat} (h : n < 10) : decL n = [UInt8.ofNat (48 + n)] := by rw [decL, dif_pos h]
theorem decL_big {n : Nat} (h : ¬ n < 10) : decL n = decL (n / 10) ++ [UInt8.ofNat (48 + n % 10)] := by rw [decL, dif_neg h]

theorem digit_back {b : UInt8} (h : digitB b = true) : UInt8.ofNat (48 + (b.toNat - 48)) = b := by
  simp [digitB] at h
  have : 48 + (b.toNat - 48) = b.toNat := by omega
  rw [this]
  simp

theorem valL_pos : ∀ (L : List UInt8), L ≠ [] → L.all digitB = true → L[0]? ≠ some 48 → 1 ≤ valL L := by
  intro L
  induction h : L.length generalizing L with
  | zero => intro hne; exact absurd (List.length_eq_zero_iff.1 h) hne
  | succ n ih =>
    intro _ hd h0
    rcases List.eq_nil_or_concat L with rfl | ⟨l, b, rfl⟩
    · simp at h
    · rw [List.concat_eq_append] at *
      have hl : l.length = n := by simpa using h
      rw [valL_snoc]
      rw [List.all_append, Bool.and_eq_true] at hd
      by_cases e : l = []
      · subst e
        simp at h0
        have hb := hd.2
        simp [digitB] at hb
        have : b.toNat ≠ 48 := fun e => h0 (UInt8.toNat_inj.1 (by simpa using e))
        simp [valL]; omega
      · have hp : 0 < l.length := List.length_pos_iff.2 e
        have := ih l hl e hd.1 (by rw [List.getElem?_append_left hp] at h0; exact h0)
        omega

theorem dec_val : ∀ (L : List UInt8), L ≠ [] → L.all digitB = true → (L[0]? ≠ some 48 ∨ L.length ≤ 1) → decL (valL L) = L := by
  intro L
  induction h : L.length generalizing L with
  | zero => intro hne; exact absurd (List.length_eq_zero_iff.1 h) hne
  | succ n ih =>
    intro _ hd h0
    rcases List.eq_nil_or_concat L with rfl | ⟨l, b, rfl⟩
    · simp at h
    · rw [List.concat_eq_append] at *
      have hl : l.length = n := by simpa using h
      rw [valL_snoc]
      rw [List.all_append, Bool.and_eq_true] at hd
      have hb := hd.2
      have hb' : digitB b = true := by simpa using hb
      simp [digitB] at hb
      by_cases e : l = []
      · subst e
        have : valL [] = 0 := rfl
        rw [this, Nat.zero_mul, Nat.zero_add, decL_small (by omega), digit_back hb']
        rfl
      · have hp : 0 < l.length := List.length_pos_iff.2 e
        have h1 : l[0]? ≠ some 48 := by
          rcases h0 with h0 | h0
          · rw [List.getElem?_append_left hp] at h0; exact h0
          · omega
        have hv := valL_pos l e hd.1 h1
        rw [decL_big (by omega)]
        have e1 : (valL l * 10 + (b.toNat - 48)) / 10 = valL l := by omega
        have e2 : (valL l * 10 + (b.toNat - 48)) % 10 = b.toNat - 48 := by omega
        rw [e1, e2, ih l hl e hd.1 (.inl h1), digit_back hb']

theorem dec_ok {L : List UInt8} (h : okD L = true) : decL (valL L) = L := by
  simp only [okD, Bool.and_eq_true, Bool.or_eq_true, decide_eq_true_eq] at h
  obtain ⟨⟨⟨h1, _⟩, h2⟩, h3⟩ := h
  exact dec_val L (fun e => by subst e; simp at h1) h3 h2

/-- a piece 'id:level' -/
def catOkL (p : List UInt8) : Bool := okD (cutL 58 p).1 && okD (cutL 58 p).2.1
def catL (p : List UInt8) : Int × Int := (numL (cutL 58 p).1, numL (cutL 58 p).2.1)

/-- the categories behind the base: at most n more; none where one is wrong or there are too many -/
def gather : Nat → List UInt8 → Bool → List (Int × Int) → Option (List (Int × Int))
  | _, _, false, cats => some cats
  | 0, _, true, _ => none
  | n + 1, rest, true, cats => if catOkL (cutL 44 rest).1 = true then gather n (cutL 44 rest).2.1 (cutL 44 rest).2.2 (cats ++ [catL (cutL 44 rest).1]) else none

def catText (c : Int × Int) : List UInt8 := 44 :: (decL c.1.toNat ++ 58 :: decL c.2.toNat)
/-- a label's text -/
def txt (base : Int) (cats : List (Int × Int)) : List UInt8 := decL base.toNat ++ (cats.map catText).flatten
theorem txt_snoc (base : Int) (cats : List (Int × Int)) (c : Int × Int) : txt base (cats ++ [c]) = txt base cats ++ catText c := by simp [txt]

theorem catText_ok {p : List UInt8} (h : catOkL p = true) : catText (catL p) = 44 :: p := by
  unfold catOkL at h
  rw [Bool.and_eq_true] at h
  have hj := cutL_join 58 p
  have hm : (cutL 58 p).2.2 = true := by
    cases hf : (cutL 58 p).2.2 with
    | true => rfl
    | false =>
      have := cutL_none 58 p hf
      rw [this] at h
      simp [okD] at h
  rw [hm, if_pos rfl] at hj
  unfold catText catL numL
  rw [if_pos h.1, if_pos h.2]
  simp only [Int.toNat_natCast]
  rw [dec_ok h.1, dec_ok h.2, ← hj]

end Go.Proofs.YtcpphobokdkkeaaDoor
