/- LevelOf of the program and of the model answer the plain function levOf. -/
import Derived.Test.YtaaeeaknjlammaaGreatDoorZA
import Derived.Test.YtaaeeaknjlammaaGreatDoorQ
namespace Go.Proofs.YtaaeeaknjlammaaGreatDoor
open Go.RowKit Go.Deep Go.Maps

theorem MapIs.below {w w' : World} {b n : Nat} {m : Int → Option Int} (h : MapIs w b n m) (hb : Below w.heap.size w w') : MapIs w' b n m := h.of_block (hb.block b h.lt)

theorem getD_of_some {m : Int → Option Int} {x base c : Int} {D : DataW Unit} (h1 : Maps.has D (.int .i64 x) = (m x).isSome) (h2 : ∀ v, m x = some v → D.atKey (.int .i64 x) (.lit (.int .i64 0)) = .lit (.int .i64 v)) (hat : D.atKey (.int .i64 x) (.lit (.int .i64 0)) = .lit (.int .i64 c)) :
    (Maps.has D (.int .i64 x) = true → (m x).getD base = c) ∧ (Maps.has D (.int .i64 x) = false → (m x).getD base = base) := by
  cases hm : m x with
  | none => simp [h1, hm]
  | some v =>
    have := (h2 v hm).symm.trans hat
    simp at this
    simp [h1, hm, this]

set_option maxRecDepth 100000 in
set_option maxHeartbeats 1000000 in
theorem of_any (base : Int) (c n : Nat) (m : Int → Option Int) (x : Int) (w : World) (hm : MapIs w c n m) (hx : (Lit.int .i64 x).wf = true) :
    Calls Tryz.prog 85 #[.agg #[.int .i64 base, .map (some c)], .int .i64 x] w fun e w' => e = .returned (.int .i64 ((m x).getD base)) ∧ Below w.heap.size w w' := by
  have hkey : keyOf Tryz.prog 2 (.int .i64 x) = some (.int .i64 x) := keyOf_int_mk Tryz.underlying2 hx
  obtain ⟨D, hown, hD, hall⟩ := hm.alloc (.cells #[.int .i64 base, .map (some c)] 137)
  obtain ⟨h1, h2⟩ := hall x
  clear hall
  go_enter Tryz.func85, Tryz.ntmps85
  have HH : Hid (∀ (c : Int), D.atKey (.int .i64 x) (.lit (.int .i64 0)) = .lit (.int .i64 c) → (Maps.has D (.int .i64 x) = true → (m x).getD base = c) ∧ (Maps.has D (.int .i64 x) = false → (m x).getD base = base)) := fun c hat => getD_of_some h1 h2 hat
  clear h1 h2
  go_wp2_with (at_lookup; refine wpList_lookup_own_ok_int _ rfl _ _ 135 rfl 2 2 .i64 keyed2 Tryz.underlying135 Tryz.underlying2 (zero2 _) c n _ rfl hown _ _ rfl hkey ?_; intro cc hat hwc)
  · go_ret
    have t : Maps.has D (.int .i64 x) = true := by assumption
    exact ⟨ret_int ((HH.out _ hat).1 t).symm, (Below.refl _ _).alloc (Nat.le_refl _) _⟩
  · go_ret
    have t : Maps.has D (.int .i64 x) = false := by assumption
    exact ⟨ret_int ((HH.out _ hat).2 t).symm, (Below.refl _ _).alloc (Nat.le_refl _) _⟩

def levOf (base : Int) (n : Nat) (f g : Nat → Int) (x : Int) : Int := (look f g n x).getD base

theorem wf_of_le {x : Int} (h0 : -9223372036854775808 ≤ x) (h1 : x ≤ 9223372036854775807) : (Lit.int .i64 x).wf = true := WalkArith.wf_i64 ⟨h0, h1⟩

/-- the categories of a right label rise -/
theorem rising {base : Int} {n : Nat} {f g : Nat → Int} (h : ∀ i, i < n → catOk base f g i = true) : ∀ j, j < n → ∀ i, i < j → f i < f j := by
  intro j
  induction j with
  | zero => intro _ i hi; omega
  | succ j ih =>
    intro hj i hi
    have h1 := (catOk_iff.1 (h (j + 1) hj)).2.2.2
    have h2 : f j < f (j + 1) := by rcases h1 with h1 | h1; omega; simpa using h1
    by_cases e : i = j
    · subst e; exact h2
    · have := ih (by omega) i (by omega); omega

theorem look_none {f g : Nat → Int} {k : Nat} {x : Int} (h : ∀ i, i < k → f i ≠ x) : look f g k x = none := by
  induction k with
  | zero => rfl
  | succ k ih => simp only [look]; rw [if_neg (h k (by omega))]; exact ih fun i hi => h i (by omega)

theorem look_some {f g : Nat → Int} {n k : Nat} (hr : ∀ j, j < n → ∀ i, i < j → f i < f j) (hk : k < n) : look f g n (f k) = some (g k) := by
  induction n with
  | zero => omega
  | succ n ih =>
    simp only [look]
    by_cases e : k = n
    · subst e; rw [if_pos rfl]
    · have := hr n (by omega) k (by omega)
      rw [if_neg (by omega)]
      exact ih (fun j hj i hi => hr j (by omega) i hi) (by omega)

set_option maxHeartbeats 1000000 in
theorem l1Level_any (base : Int) (a : Option Addr) (n cap : Nat) (f g : Nat → Int) (x : Int) (w : World) (hn : n ≤ maxLen) (hc : CatsAt w a n f g) (hr : ∀ j, j < n → ∀ i, i < j → f i < f j) :
    Calls Tryz.prog 51 #[.agg #[.int .i64 base, .slice a n cap], .int .i64 x] w fun e w' => e = .returned (.int .i64 (levOf base n f g x)) ∧ Below w.heap.size w w' := by
  unfold maxLen at hn
  have hb0 := (Below.refl _ w).alloc (Nat.le_refl _) (.cells #[.int .i64 base, .slice a n cap] 39)
  have hc1 := hc.below hb0
  have HR : Hid (∀ j, j < n → ∀ i, i < j → f i < f j) := hr
  clear hc hr
  go_enter Tryz.func51, Tryz.ntmps51
  go_wp2
  go_loop [5] (fun i => ∃ k : Nat, k ≤ n ∧ i = .int .i64 k ∧ (∀ j, j < k → f j ≠ x)) (fun i => n - (intOf i).toNat)
  case atStart => exact ⟨0, Nat.zero_le _, rfl, fun j hj => by omega⟩
  case round =>
    obtain ⟨k, hk, rfl, hall⟩ := hrel
    have HA : Hid (∀ j, j < k → f j ≠ x) := hall
    clear hall
    by_cases hlt' : k < n
    · obtain ⟨b, off, rfl, hlt, hcc⟩ := hc1 (by omega)
      obtain ⟨g1, g2⟩ := hcc k hlt'
      clear hcc hc1
      by_cases t : (f k == x) = true
      · go_wp2
        go_ret
        have t' : f k = x := by simpa using t
        exact ⟨ret_int (by rw [← t', levOf, look_some HR.out hlt']; rfl), hb0⟩
      · have t' : (f k == x) = false := by simpa using t
        clear t
        go_wp2
        go_round
        case rel =>
          refine ⟨k + 1, by omega, by go_num, fun j hj => ?_⟩
          by_cases e : j = k
          · subst e; simpa using t'
          · exact HA.out j (by omega)
        case measure => simp [intOf]; omega
    · clear hc1
      go_wp2
      go_ret
      have e : k = n := by omega
      subst e
      exact ⟨ret_int (by rw [levOf, look_none HA.out]; rfl), hb0⟩

/-- what LevelOf answers -/
def levelB (base : Int) (n : Nat) (f g : Nat → Int) (x : Int) : Int := if labOk base n f g && inB x 1 9999 then levOf base n f g x else -1

theorem levelB_no1 {base : Int} {n : Nat} {f g : Nat → Int} {x : Int} (h : labOk base n f g = false) : levelB base n f g x = -1 := by simp [levelB, h]
theorem levelB_no2 {base : Int} {n : Nat} {f g : Nat → Int} {x : Int} (h : inB x 1 9999 = false) : levelB base n f g x = -1 := by simp [levelB, h]
theorem levelB_yes {base : Int} {n : Nat} {f g : Nat → Int} {x : Int} (h : labOk base n f g = true) (h' : inB x 1 9999 = true) : levelB base n f g x = levOf base n f g x := by simp [levelB, h, h']

theorem labOk_wf {base : Int} {n : Nat} {f g : Nat → Int} (h : labOk base n f g = true) : ∀ i, i < n → (Lit.int .i64 (f i)).wf = true ∧ (Lit.int .i64 (g i)).wf = true := fun i hi => by
  obtain ⟨h1, h2, _⟩ := catOk_iff.1 ((labOk_out h).2.2 i hi)
  exact ⟨wf_of_le (by omega) (by omega), wf_of_le (by omega) (by omega)⟩

end Go.Proofs.YtaaeeaknjlammaaGreatDoor
