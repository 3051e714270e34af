/- What is read, written again, has just its bytes: plainly. -/
import Derived.Test.YtcpphobokdkkeaaDoorLI
namespace Go.Proofs.YtcpphobokdkkeaaDoor


theorem digit_ofNat {n : Nat} (h : n < 10) : digitB (UInt8.ofNat (48 + n)) = true := by
  have e : (UInt8.ofNat (48 + n)).toNat = 48 + n := UInt8.toNat_ofNat_of_lt' (by simp [UInt8.size]; omega)
  simp only [digitB, e]
  simp
  omega
theorem decL_digits (n : Nat) : (decL n).all digitB = true := by
  induction n using Nat.strongRecOn with
  | _ n ih =>
    by_cases h : n < 10
    · rw [decL_small h, List.all_cons, digit_ofNat h, List.all_nil]; rfl
    · rw [decL_big h, List.all_append, ih (n / 10) (by omega)]
      rw [List.all_cons, digit_ofNat (show n % 10 < 10 by omega), List.all_nil]; rfl
theorem toNat_digit {n : Nat} (h : n < 10) : (UInt8.ofNat (48 + n)).toNat - 48 = n := by
  have e : (UInt8.ofNat (48 + n)).toNat = 48 + n := UInt8.toNat_ofNat_of_lt' (by simp [UInt8.size]; omega)
  omega
theorem val_dec (n : Nat) : valL (decL n) = n := by
  induction n using Nat.strongRecOn with
  | _ n ih =>
    by_cases h : n < 10
    · rw [decL_small h]
      have := toNat_digit h
      simp only [valL, List.foldl_cons, List.foldl_nil]
      omega
    · rw [decL_big h, valL_snoc, ih (n / 10) (by omega), toNat_digit (by omega)]
      omega
theorem decL_len_le (k : Nat) : ∀ n, n < 10 ^ (k + 1) → (decL n).length ≤ k + 1 := by
  induction k with
  | zero => intro n h; rw [decL_small (by simpa using h)]; simp
  | succ k ih =>
    intro n h
    by_cases hs : n < 10
    · rw [decL_small hs]; simp
    · rw [decL_big hs, List.length_append]
      have := ih (n / 10) (by rw [Nat.pow_succ] at h; omega)
      simp
      omega
theorem decL_pos_len (n : Nat) : 1 ≤ (decL n).length := by
  by_cases h : n < 10
  · rw [decL_small h]; simp
  · rw [decL_big h]; simp
theorem decL_head : ∀ n, 1 ≤ n → (decL n)[0]? ≠ some 48 := by
  intro n
  induction n using Nat.strongRecOn with
  | _ n ih =>
    intro hp
    by_cases h : n < 10
    · rw [decL_small h]
      simp only [List.getElem?_cons_zero, ne_eq, Option.some.injEq]
      intro e
      have e' := congrArg UInt8.toNat e
      rw [UInt8.toNat_ofNat_of_lt' (by simp [UInt8.size]; omega)] at e'
      simp at e'
      omega
    · rw [decL_big h, List.getElem?_append_left (decL_pos_len _)]
      exact ih (n / 10) (by omega) (by omega)
theorem okD_dec {n : Nat} (h : n < 10 ^ 10) : okD (decL n) = true := by
  have h1 := decL_pos_len n
  have h2 := decL_len_le 9 n h
  have h3 : (decide ((decL n)[0]? ≠ some 48) || decide ((decL n).length ≤ 1)) = true := by
    by_cases hs : n < 10
    · rw [decL_small hs]; simp
    · rw [Bool.or_eq_true, decide_eq_true_eq]; exact .inl (decL_head n (by omega))
  unfold okD
  rw [h3, decL_digits]
  simp [h1, h2]

theorem cutL_at {c : UInt8} {D : List UInt8} (h : ∀ b ∈ D, b ≠ c) (R : List UInt8) : cutL c (D ++ c :: R) = (D, R, true) := by
  induction D with
  | nil => simp [cutL]
  | cons b D ih =>
    have hb : ¬ b = c := h b (by simp)
    simp [cutL, hb, ih (fun x hx => h x (by simp [hx]))]
theorem cutL_no {c : UInt8} {D : List UInt8} (h : ∀ b ∈ D, b ≠ c) : cutL c D = (D, [], false) := by
  induction D with
  | nil => rfl
  | cons b D ih =>
    have hb : ¬ b = c := h b (by simp)
    simp [cutL, hb, ih (fun x hx => h x (by simp [hx]))]
theorem digit_not {c : UInt8} (hc : digitB c = false) (n : Nat) : ∀ b ∈ decL n, b ≠ c := fun b hb e => by
  have := List.all_eq_true.1 (decL_digits n) b hb
  rw [e, hc] at this
  exact absurd this (by simp)

/-- 'id:level' -/
def piece (c : Int × Int) : List UInt8 := decL c.1.toNat ++ 58 :: decL c.2.toNat
theorem catText_piece (c : Int × Int) : catText c = 44 :: piece c := rfl
theorem piece_no44 (c : Int × Int) : ∀ b ∈ piece c, b ≠ 44 := fun b hb => by
  unfold piece at hb
  rw [List.mem_append, List.mem_cons] at hb
  rcases hb with hb | rfl | hb
  · exact digit_not (by decide) _ b hb
  · decide
  · exact digit_not (by decide) _ b hb
/-- numbers that fit -/
def Fit (c : Int × Int) : Prop := (0 ≤ c.1 ∧ c.1 < 10 ^ 10) ∧ (0 ≤ c.2 ∧ c.2 < 10 ^ 10)
theorem piece_cut (c : Int × Int) : cutL 58 (piece c) = (decL c.1.toNat, decL c.2.toNat, true) := cutL_at (digit_not (by decide) _) _
theorem piece_ok {c : Int × Int} (h : Fit c) : catOkL (piece c) = true ∧ catL (piece c) = c := by
  obtain ⟨⟨h1, h2⟩, ⟨h3, h4⟩⟩ := h
  have o1 : okD (decL c.1.toNat) = true := okD_dec (by omega)
  have o2 : okD (decL c.2.toNat) = true := okD_dec (by omega)
  unfold catOkL catL numL
  rw [piece_cut]
  simp only [o1, o2, val_dec, if_true, Bool.and_self, true_and]
  rw [Int.toNat_of_nonneg h1, Int.toNat_of_nonneg h3]

theorem gather_txt : ∀ (cs : List (Int × Int)) (c : Int × Int) (n : Nat) (acc : List (Int × Int)), cs.length + 1 ≤ n → Fit c → (∀ x ∈ cs, Fit x) → gather n (piece c ++ (cs.map catText).flatten) true acc = some (acc ++ c :: cs) := by
  intro cs
  induction cs with
  | nil =>
    intro c n acc hn hc _
    obtain ⟨q, rfl⟩ : ∃ q, n = q + 1 := ⟨n - 1, by simp at hn; omega⟩
    obtain ⟨p1, p2⟩ := piece_ok hc
    have e : cutL 44 (piece c ++ ([].map catText).flatten) = (piece c, [], false) := by simpa using cutL_no (piece_no44 c)
    rw [gather_next q _ _ (by rw [e]; exact p1), e, p2]
    exact gather_false _ _ _
  | cons d cs ih =>
    intro c n acc hn hc hcs
    obtain ⟨q, rfl⟩ : ∃ q, n = q + 1 := ⟨n - 1, by simp at hn; omega⟩
    obtain ⟨p1, p2⟩ := piece_ok hc
    have e : cutL 44 (piece c ++ ((d :: cs).map catText).flatten) = (piece c, piece d ++ (cs.map catText).flatten, true) := by
      rw [List.map_cons, List.flatten_cons, catText_piece, List.cons_append]
      exact cutL_at (piece_no44 c) _
    rw [gather_next q _ _ (by rw [e]; exact p1), e, p2]
    show gather q _ true _ = _
    rw [ih d q (acc ++ [c]) (by simp at hn; omega) (hcs d (by simp)) (fun x hx => hcs x (by simp [hx]))]
    simp

theorem labOk_fit {b : Int} {l : List (Int × Int)} (h : labOk b l.length (fstAt l) (sndAt l) = true) : ∀ x ∈ l, Fit x := fun x hx => by
  obtain ⟨i, hi, rfl⟩ := List.getElem_of_mem hx
  have := catOk_iff.1 ((labOk_out h).2.2 i hi)
  simp [fstAt, sndAt, hi] at this
  unfold Fit
  omega

/-- a right label comes back from its text -/
theorem read_txt {b : Int} {l : List (Int × Int)} (h : labOk b l.length (fstAt l) (sndAt l) = true) : readL (txt b l) = (b, l, true) := by
  obtain ⟨h1, h2, _⟩ := labOk_out h
  have hb := inB_iff.1 h1
  have hfit := labOk_fit h
  have o1 : okD (decL b.toNat) = true := okD_dec (by omega)
  have nb : numL (decL b.toNat) = b := by
    unfold numL
    rw [if_pos o1, val_dec]
    omega
  have nd := digit_not (c := 44) (by decide) b.toNat
  have key : cutL 44 (txt b l) = (decL b.toNat, (cutL 44 (txt b l)).2.1, (cutL 44 (txt b l)).2.2) ∧ gather 12 (cutL 44 (txt b l)).2.1 (cutL 44 (txt b l)).2.2 [] = some l := by
    cases l with
    | nil =>
      have e : cutL 44 (txt b []) = (decL b.toNat, [], false) := by simpa [txt] using cutL_no nd
      rw [e]
      exact ⟨rfl, rfl⟩
    | cons c cs =>
      have e : cutL 44 (txt b (c :: cs)) = (decL b.toNat, piece c ++ (cs.map catText).flatten, true) := by
        unfold txt
        rw [List.map_cons, List.flatten_cons, catText_piece, List.cons_append]
        exact cutL_at nd _
      rw [e]
      exact ⟨rfl, by simpa using gather_txt cs c 12 [] (by simpa using h2) (hfit c (by simp)) (fun x hx => hfit x (by simp [hx]))⟩
  obtain ⟨k1, k2⟩ := key
  unfold readL
  rw [k1]
  simp only
  rw [if_pos o1, k2, nb]
  simp [fin, h]
theorem read_nil : readL [] = (0, [], false) := by simp [readL, cutL, okD]

theorem Keeps.ends {S : List UInt8} {base : Int} {G : Option (List (Int × Int))} {l : List (Int × Int)} (hG : G = some l) : ∀ (n : Nat) (R : List UInt8) (mo : Bool) (l0 : List (Int × Int)), l0.length + n = 12 → Keeps S base G R mo l0 → S = txt base l := by
  intro n
  induction n with
  | zero =>
    intro R mo l0 hl h
    obtain ⟨h1, _, h3⟩ := h
    have hg := h1 (by omega)
    have e : 12 - l0.length = 0 := by omega
    rw [e, hG] at hg
    cases mo with
    | true => rw [gather_full] at hg; cases hg
    | false =>
      rw [gather_false] at hg
      cases hg
      simpa using h3
  | succ n ih =>
    intro R mo l0 hl h
    cases mo with
    | false =>
      obtain ⟨h1, _, h3⟩ := h
      have hg := h1 (by omega)
      rw [gather_false, hG] at hg
      cases hg
      simpa using h3
    | true =>
      cases hc : catOkL (cutL 44 R).1 with
      | false =>
        have := h.bad (by omega) hc
        rw [hG] at this
        cases this
      | true => exact ih _ _ _ (by rw [List.length_append]; simp; omega) (h.next (by omega) hc)

/-- what is read is a right label whose text it was -/
theorem read_back {S : List UInt8} {b : Int} {l : List (Int × Int)} (h : readL S = (b, l, true)) : labOk b l.length (fstAt l) (sndAt l) = true ∧ txt b l = S := by
  unfold readL at h
  split at h
  · rename_i ho
    unfold fin at h
    split at h
    · rename_i cats hg
      split at h
      · rename_i hok
        cases h
        exact ⟨hok, ((Keeps.start ho).ends hg 12 _ _ _ rfl).symm⟩
      · cases h
    · cases h
  · cases h
end Go.Proofs.YtcpphobokdkkeaaDoor
