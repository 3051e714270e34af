/- Labels and their texts, plainly: cutting at a byte, strict decimals, the pieces of a label's text. -/
import Derived.Test.YtjceaajnemgheaaGreatDoorZ1
import Derived.Lib.ConvBytes
import Derived.Deep.QuietTactic
import Derived.BigQuiet
import Derived.WalkSmall
namespace Go.Proofs.YtjceaajnemgheaaGreatDoor
def cutL (c : UInt8) : List UInt8 → List UInt8 × List UInt8 × Bool
  | [] => ([], [], false)
  | b :: l => if b = c then ([], l, true) else (b :: (cutL c l).1, (cutL c l).2.1, (cutL c l).2.2)

theorem cutL_hit (c : UInt8) : ∀ (k : Nat) (L : List UInt8), (∀ j, j < k → L[j]? ≠ some c) → L[k]? = some c → cutL c L = (L.take k, L.drop (k + 1), true) := by
  intro k
  induction k with
  | zero =>
    intro L _ h
    cases L with
    | nil => simp at h
    | cons b l => simp at h; subst h; simp [cutL]
  | succ k ih =>
    intro L h1 h2
    cases L with
    | nil => simp at h2
    | cons b l =>
      have hb : ¬ b = c := by have := h1 0 (by omega); simpa using this
      have := ih l (fun j hj => by have := h1 (j + 1) (by omega); simpa using this) (by simpa using h2)
      simp [cutL, hb, this]

theorem cutL_miss (c : UInt8) : ∀ (L : List UInt8), (∀ j, j < L.length → L[j]? ≠ some c) → cutL c L = (L, [], false) := by
  intro L
  induction L with
  | nil => intro _; rfl
  | cons b l ih =>
    intro h
    have hb : ¬ b = c := by have := h 0 (by simp); simpa using this
    have := ih (fun j hj => by have := h (j + 1) (by simpa using hj); simpa using this)
    simp [cutL, hb, this]

theorem cutL_join (c : UInt8) (L : List UInt8) : L = (cutL c L).1 ++ (if (cutL c L).2.2 = true then c :: (cutL c L).2.1 else []) := by
  induction L with
  | nil => rfl
  | cons b l ih =>
    by_cases hb : b = c
    · subst hb; simp [cutL]
    · have e : cutL c (b :: l) = (b :: (cutL c l).1, (cutL c l).2.1, (cutL c l).2.2) := by simp [cutL, hb]
      rw [e]
      simp only [List.cons_append, List.cons.injEq, true_and]
      exact ih

theorem cutL_none (c : UInt8) (L : List UInt8) (h : (cutL c L).2.2 = false) : (cutL c L).2.1 = [] := by
  induction L with
  | nil => rfl
  | cons b l ih =>
    by_cases hb : b = c
    · subst hb; simp [cutL] at h
    · simp [cutL, hb] at h ⊢; exact ih h

theorem cutL_len1 (c : UInt8) (L : List UInt8) : (cutL c L).1.length ≤ L.length := by
  have := congrArg List.length (cutL_join c L)
  rw [List.length_append] at this
  omega
theorem cutL_len2 (c : UInt8) (L : List UInt8) : (cutL c L).2.1.length ≤ L.length := by
  induction L with
  | nil => simp [cutL]
  | cons b l ih =>
    by_cases hb : b = c
    · subst hb; simp [cutL]
    · simp [cutL, hb]; omega

def digitB (b : UInt8) : Bool := decide (48 ≤ b.toNat) && decide (b.toNat ≤ 57)
def okD (L : List UInt8) : Bool := decide (1 ≤ L.length) && decide (L.length ≤ 10) && (decide (L[0]? ≠ some 48) || decide (L.length ≤ 1)) && L.all digitB
def valL (L : List UInt8) : Nat := L.foldl (fun n b => n * 10 + (b.toNat - 48)) 0
theorem valL_snoc (L : List UInt8) (b : UInt8) : valL (L ++ [b]) = valL L * 10 + (b.toNat - 48) := by simp [valL]
theorem valL_lt : ∀ (L : List UInt8), L.all digitB = true → valL L < 10 ^ L.length := by
  intro L
  induction h : L.length generalizing L with
  | zero => intro _; have : L = [] := List.length_eq_zero_iff.1 h
            subst this; simp [valL]
  | succ n ih =>
    intro hd
    rcases List.eq_nil_or_concat L with rfl | ⟨l, b, rfl⟩
    · simp at h
    · rw [List.concat_eq_append] at *
      have hl : l.length = n := by simpa using h
      rw [valL_snoc]
      rw [List.all_append, Bool.and_eq_true] at hd
      have := ih l hl hd.1
      have hb := hd.2
      simp [digitB] at hb
      rw [Nat.pow_succ]
      omega
def numL (L : List UInt8) : Int := if okD L = true then (valL L : Int) else 0
def decL (n : Nat) : List UInt8 := if h : n < 10 then [UInt8.ofNat (48 + n)] else decL (n / 10) ++ [UInt8.ofNat (48 + n % 10)]
termination_by n
decreasing_by omega

theorem decL_small {n : Nat} (h : n < 10) : decL n = [UInt8.ofNat (48 + n)] := by rw [decL, dif_pos h]
theorem decL_big {n : Nat} (h : ¬ n < 10) : decL n = decL (n / 10) ++ [UInt8.ofNat (48 + n % 10)] := by rw [decL, dif_neg h]

theorem digit_back {b : UInt8} (h : digitB b = true) : UInt8.ofNat (48 + (b.toNat - 48)) = b := by
  simp [digitB] at h
  have : 48 + (b.toNat - 48) = b.toNat := by omega
  rw [this]
  simp

theorem valL_pos : ∀ (L : List UInt8), L ≠ [] → L.all digitB = true → L[0]? ≠ some 48 → 1 ≤ valL L := by
  intro L
  induction h : L.length generalizing L with
  | zero => intro hne; exact absurd (List.length_eq_zero_iff.1 h) hne
  | succ n ih =>
    intro _ hd h0
    rcases List.eq_nil_or_concat L with rfl | ⟨l, b, rfl⟩
    · simp at h
    · rw [List.concat_eq_append] at *
      have hl : l.length = n := by simpa using h
      rw [valL_snoc]
      rw [List.all_append, Bool.and_eq_true] at hd
      by_cases e : l = []
      · subst e
        simp at h0
        have hb := hd.2
        simp [digitB] at hb
        have : b.toNat ≠ 48 := fun e => h0 (UInt8.toNat_inj.1 (by simpa using e))
        simp [valL]; omega
      · have hp : 0 < l.length := List.length_pos_iff.2 e
        have := ih l hl e hd.1 (by rw [List.getElem?_append_left hp] at h0; exact h0)
        omega

theorem dec_val : ∀ (L : List UInt8), L ≠ [] → L.all digitB = true → (L[0]? ≠ some 48 ∨ L.length ≤ 1) → decL (valL L) = L := by
  intro L
  induction h : L.length generalizing L with
  | zero => intro hne; exact absurd (List.length_eq_zero_iff.1 h) hne
  | succ n ih =>
    intro _ hd h0
    rcases List.eq_nil_or_concat L with rfl | ⟨l, b, rfl⟩
    · simp at h
    · rw [List.concat_eq_append] at *
      have hl : l.length = n := by simpa using h
      rw [valL_snoc]
      rw [List.all_append, Bool.and_eq_true] at hd
      have hb := hd.2
      have hb' : digitB b = true := by simpa using hb
      simp [digitB] at hb
      by_cases e : l = []
      · subst e
        have : valL [] = 0 := rfl
        rw [this, Nat.zero_mul, Nat.zero_add, decL_small (by omega), digit_back hb']
        rfl
      · have hp : 0 < l.length := List.length_pos_iff.2 e
        have h1 : l[0]? ≠ some 48 := by
          rcases h0 with h0 | h0
          · rw [List.getElem?_append_left hp] at h0; exact h0
          · omega
        have hv := valL_pos l e hd.1 h1
        rw [decL_big (by omega)]
        have e1 : (valL l * 10 + (b.toNat - 48)) / 10 = valL l := by omega
        have e2 : (valL l * 10 + (b.toNat - 48)) % 10 = b.toNat - 48 := by omega
        rw [e1, e2, ih l hl e hd.1 (.inl h1), digit_back hb']

theorem dec_ok {L : List UInt8} (h : okD L = true) : decL (valL L) = L := by
  simp only [okD, Bool.and_eq_true, Bool.or_eq_true, decide_eq_true_eq] at h
  obtain ⟨⟨⟨h1, _⟩, h2⟩, h3⟩ := h
  exact dec_val L (fun e => by subst e; simp at h1) h3 h2
def catOkL (p : List UInt8) : Bool := okD (cutL 58 p).1 && okD (cutL 58 p).2.1
def catL (p : List UInt8) : Int × Int := (numL (cutL 58 p).1, numL (cutL 58 p).2.1)
def gather : Nat → List UInt8 → Bool → List (Int × Int) → Option (List (Int × Int))
  | _, _, false, cats => some cats
  | 0, _, true, _ => none
  | n + 1, rest, true, cats => if catOkL (cutL 44 rest).1 = true then gather n (cutL 44 rest).2.1 (cutL 44 rest).2.2 (cats ++ [catL (cutL 44 rest).1]) else none

def catText (c : Int × Int) : List UInt8 := 44 :: (decL c.1.toNat ++ 58 :: decL c.2.toNat)
def txt (base : Int) (cats : List (Int × Int)) : List UInt8 := decL base.toNat ++ (cats.map catText).flatten
theorem txt_snoc (base : Int) (cats : List (Int × Int)) (c : Int × Int) : txt base (cats ++ [c]) = txt base cats ++ catText c := by simp [txt]

theorem catText_ok {p : List UInt8} (h : catOkL p = true) : catText (catL p) = 44 :: p := by
  unfold catOkL at h
  rw [Bool.and_eq_true] at h
  have hj := cutL_join 58 p
  have hm : (cutL 58 p).2.2 = true := by
    cases hf : (cutL 58 p).2.2 with
    | true => rfl
    | false =>
      have := cutL_none 58 p hf
      rw [this] at h
      simp [okD] at h
  rw [hm, if_pos rfl] at hj
  unfold catText catL numL
  rw [if_pos h.1, if_pos h.2]
  simp only [Int.toNat_natCast]
  rw [dec_ok h.1, dec_ok h.2, ← hj]

end Go.Proofs.YtjceaajnemgheaaGreatDoor
namespace Go.Proofs.YtjceaajnemgheaaGreatDoor
open Go.RowKit Go.Deep

theorem byte_at (s : ByteArray) (k : Nat) (h : k < s.size) : s.data.toList[k]? = some s[k] := by
  have h' : k < s.data.toList.length := by simpa using h
  rw [List.getElem?_eq_getElem h']
  rfl
theorem byte_none (s : ByteArray) (k : Nat) (h : ¬ k < s.size) : s.data.toList[k]? = none := by
  have h' : ¬ k < s.data.toList.length := by simpa using h
  simpa using h'
theorem bytes_eta (s : ByteArray) : (⟨s.data.toList.toArray⟩ : ByteArray) = s := by cases s; simp
theorem byte_ne {b c : UInt8} (h : ¬ (b.toNat : Int) = (c.toNat : Int)) : b ≠ c := fun e => h (by rw [e])
theorem byte_eq {b c : UInt8} (h : (b.toNat : Int) = (c.toNat : Int)) : b = c := UInt8.toNat_inj.1 (by omega)

theorem ext_take (s : ByteArray) (k : Nat) : s.extract 0 k = ⟨(s.data.toList.take k).toArray⟩ := by
  apply ByteArray.ext
  apply Array.ext'
  simp
theorem ext_drop (s : ByteArray) (k : Nat) : s.extract k s.size = ⟨(s.data.toList.drop k).toArray⟩ := by
  apply ByteArray.ext
  apply Array.ext'
  simp only [ByteArray.data_extract, Array.toList_extract, List.extract]
  rw [List.take_of_length_le]
  simp
def cutV (c : UInt8) (L : List UInt8) : Value := .tuple #[.string ⟨(cutL c L).1.toArray⟩, .string ⟨(cutL c L).2.1.toArray⟩, .bool (cutL c L).2.2]

set_option maxHeartbeats 1000000 in
theorem l1Cut_any (s : ByteArray) (c : UInt8) (w : World) (hn : s.size ≤ maxLen) :
    Calls Tryz.prog 9 #[.string s, .int .u8 c.toNat] w fun e w' => e = .returned (cutV c s.data.toList) ∧ Below w.heap.size w w' := by
  unfold maxLen at hn
  go_enter Tryz.func9, Tryz.ntmps9
  go_wp2
  go_loop [7] (fun i => ∃ k : Nat, k ≤ s.size ∧ i = .int .i64 k ∧ (∀ j, j < k → s.data.toList[j]? ≠ some c)) (fun i => s.size - (intOf i).toNat)
  case atStart => exact ⟨0, Nat.zero_le _, rfl, fun j hj => by omega⟩
  case round =>
    obtain ⟨k, hk, rfl, hall⟩ := hrel
    have HA : Hid (∀ j, j < k → s.data.toList[j]? ≠ some c) := hall
    clear hall
    by_cases hlt : k < s.size
    · have hki : (k : Int) < (s.size : Int) := by omega
      by_cases hb : (s[k].toNat : Int) = (c.toNat : Int)
      · go_wp2_with fail
        go_quiet (fail)
        go_wp2
        have e := cutL_hit c k s.data.toList HA.out (by rw [byte_at s k hlt, byte_eq hb])
        refine bodyPost_ret (v := cutV c s.data.toList) (by simp [results, Tryz.results9, go_sem, cutV, e, ext_take, ext_drop]) rfl ⟨rfl, below_drewN (Below.refl _ _) _⟩
      · go_wp2
        go_round
        case rel =>
          refine ⟨k + 1, by omega, by go_num, fun j hj => ?_⟩
          by_cases e : j = k
          · subst e; rw [byte_at s j hlt]; simpa using byte_ne hb
          · exact HA.out j (by omega)
        case measure => simp [intOf]; omega
    · have hki : ¬ (k : Int) < (s.size : Int) := by omega
      go_wp2
      have e := cutL_miss c s.data.toList (fun j hj => HA.out j (by have : j < s.size := by simpa using hj
                                                                    omega))
      refine bodyPost_ret (v := cutV c s.data.toList) (by simp [results, Tryz.results9, go_sem, cutV, e]) rfl ⟨rfl, Below.refl _ _⟩
def numV (L : List UInt8) : Value := .tuple #[.int .i64 (numL L), .bool (okD L)]

theorem okD_short {s : ByteArray} (h : ¬ 1 ≤ s.size) : okD s.data.toList = false := by
  have : ¬ 1 ≤ s.data.toList.length := by simpa using h
  simp [okD]; omega
theorem okD_long {s : ByteArray} (h : ¬ s.size ≤ 10) : okD s.data.toList = false := by
  have e : s.data.toList.length = s.size := by simp
  have : ¬ s.data.toList.length ≤ 10 := by omega
  simp only [okD, this, decide_false, Bool.and_false, Bool.false_and]
theorem okD_zero {s : ByteArray} (h0 : 0 < s.size) (hz : s[0] = 48) (h : ¬ s.size ≤ 1) : okD s.data.toList = false := by
  have e : s.data.toList.length = s.size := by simp
  have h1 : ¬ s.data.toList.length ≤ 1 := by omega
  have h2 : s.data.toList[0]? = some 48 := by rw [byte_at s 0 h0, hz]
  simp only [okD, h1, h2, ne_eq, not_true_eq_false, decide_false, Bool.or_false, Bool.and_false, Bool.false_and]
theorem okD_digit {s : ByteArray} {k : Nat} (hk : k < s.size) (h : digitB s[k] = false) : okD s.data.toList = false := by
  have : s.data.toList.all digitB = false := by
    rw [List.all_eq_false]
    exact ⟨s[k], Array.getElem_mem_toList hk, by simp [h]⟩
  simp only [okD, this, Bool.and_false]
theorem okD_yes {s : ByteArray} (h1 : 1 ≤ s.size) (h2 : s.size ≤ 10) (h3 : ∀ h : 0 < s.size, s[0] ≠ 48 ∨ s.size ≤ 1) (h4 : ∀ (k : Nat) (hk : k < s.size), digitB s[k] = true) : okD s.data.toList = true := by
  have e : s.data.toList.length = s.size := by simp
  have hd : s.data.toList.all digitB = true := by
    rw [List.all_eq_true]
    intro b hb
    obtain ⟨k, hk, rfl⟩ := List.getElem_of_mem hb
    exact h4 k (by rw [← e]; exact hk)
  have hz : (decide (s.data.toList[0]? ≠ some 48) || decide (s.data.toList.length ≤ 1)) = true := by
    rw [Bool.or_eq_true, decide_eq_true_eq, decide_eq_true_eq, byte_at s 0 (by omega), e]
    rcases h3 (by omega) with h | h
    · exact .inl (by simpa using h)
    · exact .inr h
  unfold okD
  rw [hz, hd, e]
  simp [h1, h2]
theorem take_snoc (s : ByteArray) (k : Nat) (hk : k < s.size) : s.data.toList.take (k + 1) = s.data.toList.take k ++ [s[k]] := by
  rw [List.take_add_one, byte_at s k hk]; rfl
theorem take_val (s : ByteArray) (k : Nat) (hk : k < s.size) (hd : digitB s[k] = true) : (valL (s.data.toList.take (k + 1)) : Int) = (valL (s.data.toList.take k) : Int) * 10 + ((s[k].toNat : Int) - 48) := by
  rw [take_snoc s k hk, valL_snoc]
  simp [digitB] at hd
  omega
theorem take_lt (s : ByteArray) (k : Nat) (hk : k ≤ s.size) (h10 : s.size ≤ 10) (hd : ∀ (j : Nat) (hj : j < s.size), j < k → digitB s[j] = true) : valL (s.data.toList.take k) < 10 ^ 10 := by
  have hall : (s.data.toList.take k).all digitB = true := by
    rw [List.all_eq_true]
    intro b hb
    obtain ⟨j, hj, rfl⟩ := List.getElem_of_mem hb
    rw [List.length_take] at hj
    have e : s.data.toList.length = s.size := by simp
    rw [List.getElem_take]
    exact hd j (by omega) (by omega)
  have h := valL_lt _ hall
  have hl : (s.data.toList.take k).length ≤ 10 := by rw [List.length_take]; have e : s.data.toList.length = s.size := by simp
                                                     omega
  exact Nat.lt_of_lt_of_le h (Nat.pow_le_pow_right (by omega) hl)
theorem digit_lo {b : UInt8} (h : (b.toNat : Int) < 48) : digitB b = false := by
  have : ¬ 48 ≤ b.toNat := by omega
  simp [digitB, this]
theorem digit_hi {b : UInt8} (h : 57 < (b.toNat : Int)) : digitB b = false := by
  have : ¬ b.toNat ≤ 57 := by omega
  simp [digitB, this]
theorem digit_yes {b : UInt8} (h1 : ¬ (b.toNat : Int) < 48) (h2 : ¬ 57 < (b.toNat : Int)) : digitB b = true := by
  have e1 : 48 ≤ b.toNat := by omega
  have e2 : b.toNat ≤ 57 := by omega
  simp [digitB, e1, e2]

set_option maxRecDepth 100000 in
set_option maxHeartbeats 2000000 in
theorem l1Int_any (s : ByteArray) (w : World) (hn : s.size ≤ maxLen) :
    Calls Tryz.prog 22 #[.string s] w fun e w' => e = .returned (numV s.data.toList) ∧ w' = w := by
  unfold maxLen at hn
  by_cases h1 : 1 ≤ s.size
  rotate_left
  · have h1' : (s.size : Int) < 1 := by omega
    have e := okD_short h1
    go_enter Tryz.func22, Tryz.ntmps22
    go_wp2
    exact bodyPost_ret (v := numV s.data.toList) (by simp [results, Tryz.results22, go_sem, numV, numL, e]) rfl ⟨rfl, rfl⟩
  by_cases h2 : s.size ≤ 10
  rotate_left
  · have h2' : (10 : Int) < (s.size : Int) := by omega
    have e := okD_long h2
    have h1' : ¬ (s.size : Int) < 1 := by omega
    go_enter Tryz.func22, Tryz.ntmps22
    go_wp2
    exact bodyPost_ret (v := numV s.data.toList) (by simp [results, Tryz.results22, go_sem, numV, numL, e]) rfl ⟨rfl, rfl⟩
  have h1' : ¬ (s.size : Int) < 1 := by omega
  have h2' : ¬ (10 : Int) < (s.size : Int) := by omega
  have hp : 0 < s.size := by omega
  have hp' : (0 : Int) < (s.size : Int) := by omega
  by_cases hz : (s[0].toNat : Int) = 48
  · by_cases h3 : s.size ≤ 1
    rotate_left
    · have h3' : (1 : Int) < (s.size : Int) := by omega
      have e := okD_zero hp (byte_eq (c := 48) hz) h3
      go_enter Tryz.func22, Tryz.ntmps22
      go_wp2
      exact bodyPost_ret (v := numV s.data.toList) (by simp [results, Tryz.results22, go_sem, numV, numL, e]) rfl ⟨rfl, rfl⟩
    have h3' : ¬ (1 : Int) < (s.size : Int) := by omega
    have hyes := okD_yes (s := s) h1 h2 (fun _ => .inr h3)
    go_enter Tryz.func22, Tryz.ntmps22
    go_wp2
    go_loop [4, 5] (fun n i => ∃ k : Nat, k ≤ s.size ∧ i = .int .i64 k ∧ n = .int .i64 (valL (s.data.toList.take k)) ∧ (∀ (j : Nat) (hj : j < s.size), j < k → digitB s[j] = true)) (fun _ i => s.size - (intOf i).toNat)
    case atStart => exact ⟨0, Nat.zero_le _, rfl, rfl, fun j _ hj => by omega⟩
    case round =>
      obtain ⟨k, hk, rfl, rfl, hall⟩ := hrel
      have hv := take_lt s k hk h2 hall
      have HV : Hid (k < s.size → ∀ h : k < s.size, digitB s[k] = true → (valL (s.data.toList.take (k + 1)) : Int) = (valL (s.data.toList.take k) : Int) * 10 + ((s[k].toNat : Int) - 48)) := fun _ h hd => take_val s k h hd
      have HE : Hid (k = s.size → s.data.toList.take k = s.data.toList) := fun e => by rw [e]; exact List.take_of_length_le (by simp)
      have HA : Hid (∀ (j : Nat) (hj : j < s.size), j < k → digitB s[j] = true) := hall
      clear hall
      generalize hg : valL (s.data.toList.take k) = v at *
      have HG : Hid (valL (s.data.toList.take k) = v) := hg
      clear hg
      by_cases hlt : k < s.size
      · have hki : (k : Int) < (s.size : Int) := by omega
        by_cases d1 : (s[k].toNat : Int) < 48
        · go_wp2
          exact bodyPost_ret (v := numV s.data.toList) (by simp [results, Tryz.results22, go_sem, numV, numL, okD_digit hlt (digit_lo d1)]) rfl ⟨rfl, rfl⟩
        · by_cases d2 : 57 < (s[k].toNat : Int)
          · go_wp2
            exact bodyPost_ret (v := numV s.data.toList) (by simp [results, Tryz.results22, go_sem, numV, numL, okD_digit hlt (digit_hi d2)]) rfl ⟨rfl, rfl⟩
          · have hd := digit_yes d1 d2
            have hb256 : (s[k].toNat : Int) < 256 := by have := s[k].toNat_lt; omega
            go_wp2
            go_round
            case rel =>
              refine ⟨k + 1, by omega, by go_num, ?_, fun j hj hjk => ?_⟩
              · rw [HV.out hlt hlt hd]
              · by_cases e : j = k
                · subst e; exact hd
                · exact HA.out j hj (by omega)
            case measure => simp [intOf]; omega
      · have hki : ¬ (k : Int) < (s.size : Int) := by omega
        have ek : k = s.size := by omega
        have e := hyes (fun j hj => HA.out j hj (by omega))
        have e2 := HE.out ek
        have e3 : valL s.data.toList = v := by rw [← e2]; exact HG.out
        clear hyes HA HE HG HV
        go_wp2
        exact bodyPost_ret (v := numV s.data.toList) (by simp [results, Tryz.results22, go_sem, numV, numL, e, e3]) rfl ⟨rfl, rfl⟩
  · have hyes := okD_yes (s := s) h1 h2 (fun _ => .inl (byte_ne (c := 48) hz))
    go_enter Tryz.func22, Tryz.ntmps22
    go_wp2
    go_loop [4, 5] (fun n i => ∃ k : Nat, k ≤ s.size ∧ i = .int .i64 k ∧ n = .int .i64 (valL (s.data.toList.take k)) ∧ (∀ (j : Nat) (hj : j < s.size), j < k → digitB s[j] = true)) (fun _ i => s.size - (intOf i).toNat)
    case atStart => exact ⟨0, Nat.zero_le _, rfl, rfl, fun j _ hj => by omega⟩
    case round =>
      obtain ⟨k, hk, rfl, rfl, hall⟩ := hrel
      have hv := take_lt s k hk h2 hall
      have HV : Hid (k < s.size → ∀ h : k < s.size, digitB s[k] = true → (valL (s.data.toList.take (k + 1)) : Int) = (valL (s.data.toList.take k) : Int) * 10 + ((s[k].toNat : Int) - 48)) := fun _ h hd => take_val s k h hd
      have HE : Hid (k = s.size → s.data.toList.take k = s.data.toList) := fun e => by rw [e]; exact List.take_of_length_le (by simp)
      have HA : Hid (∀ (j : Nat) (hj : j < s.size), j < k → digitB s[j] = true) := hall
      clear hall
      generalize hg : valL (s.data.toList.take k) = v at *
      have HG : Hid (valL (s.data.toList.take k) = v) := hg
      clear hg
      by_cases hlt : k < s.size
      · have hki : (k : Int) < (s.size : Int) := by omega
        by_cases d1 : (s[k].toNat : Int) < 48
        · go_wp2
          exact bodyPost_ret (v := numV s.data.toList) (by simp [results, Tryz.results22, go_sem, numV, numL, okD_digit hlt (digit_lo d1)]) rfl ⟨rfl, rfl⟩
        · by_cases d2 : 57 < (s[k].toNat : Int)
          · go_wp2
            exact bodyPost_ret (v := numV s.data.toList) (by simp [results, Tryz.results22, go_sem, numV, numL, okD_digit hlt (digit_hi d2)]) rfl ⟨rfl, rfl⟩
          · have hd := digit_yes d1 d2
            have hb256 : (s[k].toNat : Int) < 256 := by have := s[k].toNat_lt; omega
            go_wp2
            go_round
            case rel =>
              refine ⟨k + 1, by omega, by go_num, ?_, fun j hj hjk => ?_⟩
              · rw [HV.out hlt hlt hd]
              · by_cases e : j = k
                · subst e; exact hd
                · exact HA.out j hj (by omega)
            case measure => simp [intOf]; omega
      · have hki : ¬ (k : Int) < (s.size : Int) := by omega
        have ek : k = s.size := by omega
        have e := hyes (fun j hj => HA.out j hj (by omega))
        have e2 := HE.out ek
        have e3 : valL s.data.toList = v := by rw [← e2]; exact HG.out
        clear hyes HA HE HG HV
        go_wp2
        exact bodyPost_ret (v := numV s.data.toList) (by simp [results, Tryz.results22, go_sem, numV, numL, e, e3]) rfl ⟨rfl, rfl⟩
end Go.Proofs.YtjceaajnemgheaaGreatDoor
