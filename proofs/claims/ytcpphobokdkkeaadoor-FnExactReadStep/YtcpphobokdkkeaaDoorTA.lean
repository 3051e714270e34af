/- Reading a step, plainly: what is read leniently is written again just where it was read strictly. -/
import Derived.Test.YtcpphobokdkkeaaDoorSC
import Derived.Test.YtcpphobokdkkeaaDoorLL
namespace Go.Proofs.YtcpphobokdkkeaaDoor

/-- what is left behind k blanks -/
def rst : Nat → List UInt8 → List UInt8
  | 0, L => L
  | k + 1, L => (cutL 32 (rst k L)).2.1
def pce (k : Nat) (L : List UInt8) : List UInt8 := (cutL 32 (rst k L)).1
def fnd (k : Nat) (L : List UInt8) : Bool := (cutL 32 (rst k L)).2.2
theorem rst_len (k : Nat) (L : List UInt8) : (rst k L).length ≤ L.length := by
  induction k with
  | zero => exact Nat.le_refl _
  | succ k ih => exact Nat.le_trans (cutL_len2 32 _) ih
theorem pce_len (k : Nat) (L : List UInt8) : (pce k L).length ≤ L.length := Nat.le_trans (cutL_len1 32 _) (rst_len k L)

theorem readL_len (L : List UInt8) : (readL L).2.1.length ≤ 12 := by
  unfold readL
  split
  · unfold fin
    split
    · split
      · rename_i h
        exact (labOk_out h).2.1
      · simp
    · simp
  · simp
def rl (k : Nat) (L : List UInt8) : Int × List (Int × Int) × Bool := readL (pce k L)
def nm (k : Nat) (L : List UInt8) : Int := numL (pce k L)
/-- what is read is a right step -/
def rightS (L : List UInt8) : Bool := stepOk (nm 0 L) (nm 1 L) (nm 2 L) (nm 3 L) (nm 4 L) ⟨(rst 7 L).toArray⟩ (rl 5 L).1 (rl 5 L).2.1.length (fstAt (rl 5 L).2.1) (sndAt (rl 5 L).2.1) (rl 6 L).1 (rl 6 L).2.1.length (fstAt (rl 6 L).2.1) (sndAt (rl 6 L).2.1)
/-- and its text -/
def againS (L : List UInt8) : ByteArray := stepA (nm 0 L) (nm 1 L) (nm 2 L) (nm 3 L) (nm 4 L) ⟨(rst 7 L).toArray⟩ (rl 5 L).1 (rl 5 L).2.1.length (fstAt (rl 5 L).2.1) (sndAt (rl 5 L).2.1) (rl 6 L).1 (rl 6 L).2.1.length (fstAt (rl 6 L).2.1) (sndAt (rl 6 L).2.1)
/-- a number that is met -/
def numAtB (k : Nat) (L : List UInt8) : Bool := fnd k L && okD (pce k L)
def labAtB (k : Nat) (L : List UInt8) : Bool := fnd k L && (rl k L).2.2
def strictS (L : List UInt8) : Bool := numAtB 0 L && numAtB 1 L && numAtB 2 L && numAtB 3 L && numAtB 4 L && labAtB 5 L && labAtB 6 L && rightS L

theorem decB_list (x : Int) : (decB x).data.toList = decL x.toNat := by simp [decB]
theorem stepT_list (X1 X2 X3 X4 X5 X6 X7 X8 : ByteArray) : (stepT X1 X2 X3 X4 X5 X6 X7 X8).data.toList = X1.data.toList ++ 32 :: (X2.data.toList ++ 32 :: (X3.data.toList ++ 32 :: (X4.data.toList ++ 32 :: (X5.data.toList ++ 32 :: (X6.data.toList ++ 32 :: (X7.data.toList ++ 32 :: X8.data.toList)))))) := by
  unfold stepT
  simp
theorem txt_no32 (b : Int) (l : List (Int × Int)) : ∀ x ∈ txt b l, x ≠ 32 := fun x hx => by
  unfold txt at hx
  rw [List.mem_append] at hx
  rcases hx with hx | hx
  · exact digit_not (by decide) _ x hx
  · rw [List.mem_flatten] at hx
    obtain ⟨t, ht, hx⟩ := hx
    rw [List.mem_map] at ht
    obtain ⟨c, _, rfl⟩ := ht
    unfold catText at hx
    rw [List.mem_cons, List.mem_append, List.mem_cons] at hx
    rcases hx with rfl | hx | rfl | hx
    · decide
    · exact digit_not (by decide) _ x hx
    · decide
    · exact digit_not (by decide) _ x hx
theorem join_at {k : Nat} {L : List UInt8} (h : fnd k L = true) : rst k L = pce k L ++ 32 :: rst (k + 1) L := by
  have := cutL_join 32 (rst k L)
  unfold fnd at h
  rw [h, if_pos rfl] at this
  exact this
theorem nm_dec {k : Nat} {L : List UInt8} (h : numAtB k L = true) : fnd k L = true ∧ decL (nm k L).toNat = pce k L := by
  unfold numAtB at h
  rw [Bool.and_eq_true] at h
  refine ⟨h.1, ?_⟩
  unfold nm numL
  rw [if_pos h.2]
  simp [dec_ok h.2]
theorem rl_txt {k : Nat} {L : List UInt8} (h : labAtB k L = true) : fnd k L = true ∧ txt (rl k L).1 (rl k L).2.1 = pce k L := by
  unfold labAtB at h
  rw [Bool.and_eq_true] at h
  exact ⟨h.1, (read_back (S := pce k L) (b := (rl k L).1) (l := (rl k L).2.1) (by rw [← h.2]; rfl)).2⟩
theorem cut_at {k : Nat} {L D R : List UInt8} (h : rst k L = D ++ 32 :: R) (hD : ∀ b ∈ D, b ≠ 32) : fnd k L = true ∧ pce k L = D ∧ rst (k + 1) L = R := by
  have e := cutL_at hD R
  rw [← h] at e
  exact ⟨by unfold fnd; rw [e], by unfold pce; rw [e], by show (cutL 32 (rst k L)).2.1 = R; rw [e]⟩

theorem strict_yes {L : List UInt8} (h : strictS L = true) : L ≠ [] ∧ (againS L).data.toList = L := by
  unfold strictS at h
  simp only [Bool.and_eq_true] at h
  obtain ⟨⟨⟨⟨⟨⟨⟨h0, h1⟩, h2⟩, h3⟩, h4⟩, h5⟩, h6⟩, hr⟩ := h
  obtain ⟨f0, e0⟩ := nm_dec h0
  obtain ⟨f1, e1⟩ := nm_dec h1
  obtain ⟨f2, e2⟩ := nm_dec h2
  obtain ⟨f3, e3⟩ := nm_dec h3
  obtain ⟨f4, e4⟩ := nm_dec h4
  obtain ⟨f5, e5⟩ := rl_txt h5
  obtain ⟨f6, e6⟩ := rl_txt h6
  have j0 : L = _ := join_at f0
  rw [join_at f1, join_at f2, join_at f3, join_at f4, join_at f5, join_at f6] at j0
  refine ⟨fun e => by rw [e] at j0; simp at j0, ?_⟩
  unfold againS stepA
  unfold rightS at hr
  rw [if_pos hr, stepT_list]
  simp only [decB_list, catsTo_list]
  rw [e0, e1, e2, e3, e4, e5, e6]
  exact j0.symm

theorem dec_at {k : Nat} {L R : List UInt8} {x : Int} (h : rst k L = decL x.toNat ++ 32 :: R) (hx : 0 ≤ x ∧ x ≤ 9999) : numAtB k L = true ∧ rst (k + 1) L = R := by
  obtain ⟨h1, h2, h3⟩ := cut_at h (digit_not (by decide) _)
  refine ⟨?_, h3⟩
  unfold numAtB
  rw [h1, h2, okD_dec (by omega)]
  rfl
theorem lab_at {k : Nat} {L R : List UInt8} {b : Int} {l : List (Int × Int)} (h : rst k L = txt b l ++ 32 :: R) (hx : labOk b l.length (fstAt l) (sndAt l) = true) : labAtB k L = true ∧ rst (k + 1) L = R := by
  obtain ⟨h1, h2, h3⟩ := cut_at h (txt_no32 b l)
  refine ⟨?_, h3⟩
  unfold labAtB rl
  rw [h1, h2, read_txt hx]
  rfl

theorem strict_back {L : List UInt8} (hL : L ≠ []) (h : (againS L).data.toList = L) : strictS L = true := by
  have hr : rightS L = true := by
    cases e : rightS L with
    | true => rfl
    | false =>
      unfold againS stepA at h
      unfold rightS at e
      rw [if_neg (by rw [e]; decide)] at h
      exact absurd h.symm (by simpa using hL)
  have hr' := hr
  unfold rightS at hr'
  obtain ⟨g0, g1, g2, g3, g4, _, g5, g6⟩ := step_is _ _ _ _ _ _ _ _ _ _ _ _ _ _ hr'
  unfold againS stepA at h
  rw [if_pos hr', stepT_list] at h
  simp only [decB_list, catsTo_list] at h
  obtain ⟨k0, r1⟩ := dec_at (k := 0) (L := L) h.symm g0
  obtain ⟨k1, r2⟩ := dec_at r1 g1
  obtain ⟨k2, r3⟩ := dec_at r2 g2
  obtain ⟨k3, r4⟩ := dec_at r3 g3
  obtain ⟨k4, r5⟩ := dec_at r4 g4
  obtain ⟨k5, r6⟩ := lab_at r5 g5
  obtain ⟨k6, r7⟩ := lab_at r6 g6
  unfold strictS
  rw [k0, k1, k2, k3, k4, k5, k6, hr]
  rfl
/-- what ReadStep answers -/
theorem strict_iff (L : List UInt8) : strictS L = decide (L ≠ [] ∧ (againS L).data.toList = L) := by
  cases e : strictS L with
  | true => exact (decide_eq_true (strict_yes e)).symm
  | false =>
    symm
    rw [decide_eq_false_iff_not]
    intro h
    rw [strict_back h.1 h.2] at e
    cases e
end Go.Proofs.YtcpphobokdkkeaaDoor
