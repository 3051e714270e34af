/- LabelOk of the program answers the plain function labOk, at every label. -/
import Derived.Test.YtonpoakimpoojaaC
namespace Go.Proofs.Ytonpoakimpoojaa
open Go.RowKit Go.Deep

def catOk (base : Int) (f g : Nat → Int) (i : Nat) : Bool := inB (f i) 1 9999 && inB (g i) 0 3 && !(g i == base) && (i == 0 || decide (f (i - 1) < f i))
def labOk (base : Int) (n : Nat) (f g : Nat → Int) : Bool := inB base 0 3 && decide (n ≤ 12) && (List.range n).all (catOk base f g)

theorem labOk_base {base : Int} {n : Nat} {f g : Nat → Int} (h : inB base 0 3 = false) : labOk base n f g = false := by simp [labOk, h]
theorem labOk_len {base : Int} {n : Nat} {f g : Nat → Int} (h : 12 < n) : labOk base n f g = false := by
  have : decide (n ≤ 12) = false := by simp; omega
  simp [labOk, this]
theorem labOk_at {base : Int} {n k : Nat} {f g : Nat → Int} (hk : k < n) (h : catOk base f g k = false) : labOk base n f g = false := by
  have : (List.range n).all (catOk base f g) = false := by
    rw [List.all_eq_false]; exact ⟨k, List.mem_range.2 hk, by simp [h]⟩
  simp [labOk, this]
theorem labOk_mk {base : Int} {n : Nat} {f g : Nat → Int} (hb : inB base 0 3 = true) (hn : n ≤ 12) (h : ∀ i, i < n → catOk base f g i = true) : labOk base n f g = true := by
  have : (List.range n).all (catOk base f g) = true := by
    rw [List.all_eq_true]; intro i hi; exact h i (List.mem_range.1 hi)
  simp [labOk, this, hb, hn]
theorem labOk_out {base : Int} {n : Nat} {f g : Nat → Int} (h : labOk base n f g = true) : inB base 0 3 = true ∧ n ≤ 12 ∧ ∀ i, i < n → catOk base f g i = true := by
  simp only [labOk, Bool.and_eq_true, decide_eq_true_eq, List.all_eq_true, List.mem_range] at h
  exact ⟨h.1.1, h.1.2, h.2⟩
theorem inB_iff {x lo hi : Int} : inB x lo hi = true ↔ lo ≤ x ∧ x ≤ hi := by simp [inB]
theorem catOk_iff {base : Int} {f g : Nat → Int} {i : Nat} : catOk base f g i = true ↔ (1 ≤ f i ∧ f i ≤ 9999) ∧ (0 ≤ g i ∧ g i ≤ 3) ∧ g i ≠ base ∧ (i = 0 ∨ f (i - 1) < f i) := by
  simp [catOk, inB, and_assoc]

def lastOf (f : Nat → Int) (k : Nat) : Int := if k = 0 then 0 else f (k - 1)
theorem lastOf_succ (f : Nat → Int) (k : Nat) : lastOf f (k + 1) = f k := by simp [lastOf]

theorem catOk_n1 {base : Int} {f g : Nat → Int} {k : Nat} (h : inB (f k) 1 9999 = false) : catOk base f g k = false := by simp [catOk, h]
theorem catOk_n2 {base : Int} {f g : Nat → Int} {k : Nat} (h0 : inB (f k) 1 9999 = true) (h : f k ≤ lastOf f k) : catOk base f g k = false := by
  have h0 := inB_iff.1 h0
  by_cases e : k = 0
  · subst e; simp [lastOf] at h; omega
  · simp [lastOf, e] at h
    have : decide (f (k - 1) < f k) = false := by simp; omega
    simp [catOk, e, this]
theorem catOk_n3 {base : Int} {f g : Nat → Int} {k : Nat} (h : inB (g k) 0 3 = false) : catOk base f g k = false := by simp [catOk, h]
theorem catOk_n4 {base : Int} {f g : Nat → Int} {k : Nat} (h : (g k == base) = true) : catOk base f g k = false := by simp [catOk, h]
theorem catOk_y {base : Int} {f g : Nat → Int} {k : Nat} (h1 : inB (f k) 1 9999 = true) (h2 : ¬ f k ≤ lastOf f k) (h3 : inB (g k) 0 3 = true) (h4 : (g k == base) = false) : catOk base f g k = true := by
  by_cases e : k = 0
  · subst e; simp_all [catOk]
  · simp [lastOf, e] at h2
    simp [catOk, h1, h3, h4, h2]

set_option maxHeartbeats 1000000 in
theorem implOk_any (base : Int) (a : Option Addr) (n cap : Nat) (f g : Nat → Int) (w : World) (hn : n ≤ maxLen) (hc : CatsAt w a n f g) :
    Calls Try.prog 91 #[.agg #[.int .i64 base, .slice a n cap]] w fun e w' => e = .returned (.bool (labOk base n f g)) ∧ Below w.heap.size w w' := by
  unfold maxLen at hn
  by_cases hb : inB base 0 3 = true
  · by_cases h12 : 12 < n
    · have h12' : (12 : Int) < (n : Int) := by omega
      go_enter Try.func91, Try.ntmps91
      go_wp2_with (go_at_call 102; refine (isLevel_any _ _).mono ?_; rintro e w' ⟨rfl, rfl⟩)
      go_ret
      exact ⟨ret_bool (labOk_len h12).symm, (Below.refl _ _).alloc (Nat.le_refl _) _⟩
    · have h12' : ¬ (12 : Int) < (n : Int) := by omega
      have hb0 := (Below.refl _ w).alloc (Nat.le_refl _) (.cells #[.int .i64 base, .slice a n cap] 37)
      have hc1 := hc.below hb0
      go_enter Try.func91, Try.ntmps91
      go_wp2_with (go_at_call 102; refine (isLevel_any _ _).mono ?_; rintro e w' ⟨rfl, rfl⟩)
      go_loopw [3, 19] (fun l i wr => ∃ k : Nat, k ≤ n ∧ i = .int .i64 k ∧ l = .int .i64 (lastOf f k) ∧ (∀ j, j < k → catOk base f g j = true) ∧ Below (w.heap.size + 1) (w.alloc (.cells #[.int .i64 base, .slice a n cap] 37)) wr) (fun _ i _ => n - (intOf i).toNat)
      case atStart => exact ⟨0, Nat.zero_le _, rfl, rfl, fun j hj => by omega, Below.refl _ _⟩
      case round =>
        obtain ⟨k, hk, rfl, rfl, hall, hB⟩ := hrel
        have x0 : wr.cell? ⟨w.heap.size, 0, none⟩ = some (.int .i64 base) := (hB.cell (p := ⟨w.heap.size, 0, none⟩) (by simp)).trans (by simp)
        have hB' : Below w.heap.size w wr := hb0.trans (hB.mono (by omega))
        have zz : w.heap.size < wr.heap.size := by have := hB.size; simp at this; omega
        have x1 : ∀ o, (wr.alloc o).cell? ⟨w.heap.size, 0, none⟩ = some (.int .i64 base) := fun o => (((Below.refl _ wr).alloc (Nat.le_refl _) o).cell (p := ⟨w.heap.size, 0, none⟩) zz).trans x0
        by_cases hlt' : k < n
        · obtain ⟨b, off, rfl, hlt, hcc⟩ := hc (by omega)
          obtain ⟨h1, h2⟩ := hcc k hlt'
          have g1 : wr.cell? ⟨b, off + k * 2, none⟩ = some (.int .i64 (f k)) := (hB'.cell (p := ⟨b, _, none⟩) hlt).trans h1
          have g2 : wr.cell? ⟨b, off + k * 2 + 1, none⟩ = some (.int .i64 (g k)) := (hB'.cell (p := ⟨b, _, none⟩) hlt).trans h2
          clear h1 h2 hcc hc hc1 hb0
          have HA : Hid (∀ j, j < k → catOk base f g j = true) := hall
          clear hall
          by_cases t1 : inB (f k) 1 9999 = true
          · go_wp2_with (first | (go_at_call 102; refine (isLevel_any _ _).mono ?_; rintro e w' ⟨rfl, rfl⟩) | (go_at_call 103; refine (isCat_any _ _).mono ?_; rintro e w' ⟨rfl, rfl⟩))
            · go_ret
              refine ⟨ret_bool (labOk_at hlt' (catOk_n4 ?_)).symm, hB'.alloc (by omega) _⟩
              have t2 : lastOf f k < f k := by assumption
              have t3 : f k ≤ lastOf f k ∨ (g k == base) = true := by assumption
              rcases t3 with t3 | t3
              · omega
              · exact t3
            · have t2 : lastOf f k < f k := by assumption
              have t3 : inB (g k) 0 3 = true := by assumption
              have t4 : lastOf f k < f k ∧ (g k == base) = false := by assumption
              go_roundw
              case rel =>
                refine ⟨k + 1, by omega, by go_num, by rw [lastOf_succ], fun j hj => ?_, hB.alloc (by omega) _⟩
                by_cases e : j = k
                · subst e; exact catOk_y t1 (by omega) t3 t4.2
                · exact HA.out j (by omega)
              case measure => simp [intOf]; omega
            · go_ret
              have t2 : ¬ inB (g k) 0 3 = true := by assumption
              exact ⟨ret_bool (labOk_at hlt' (catOk_n3 (by simpa using t2))).symm, hB'.alloc (by omega) _⟩
            · go_ret
              have t2 : f k ≤ lastOf f k := by assumption
              exact ⟨ret_bool (labOk_at hlt' (catOk_n2 t1 t2)).symm, hB'.alloc (by omega) _⟩
          · have t1' : inB (f k) 1 9999 = false := by simpa using t1
            clear t1
            go_wp2_with (first | (go_at_call 102; refine (isLevel_any _ _).mono ?_; rintro e w' ⟨rfl, rfl⟩) | (go_at_call 103; refine (isCat_any _ _).mono ?_; rintro e w' ⟨rfl, rfl⟩))
            go_ret
            exact ⟨ret_bool (labOk_at hlt' (catOk_n1 t1')).symm, hB'.alloc (by omega) _⟩
        · have HA : Hid (∀ j, j < k → catOk base f g j = true) := hall
          clear hall hc hc1
          go_wp2
          go_ret
          have e : k = n := by omega
          subst e
          exact ⟨ret_bool (labOk_mk hb (by omega) HA.out).symm, hB'⟩
  · have hb' : inB base 0 3 = false := by simpa using hb
    clear hb
    go_enter Try.func91, Try.ntmps91
    go_wp2_with (go_at_call 102; refine (isLevel_any _ _).mono ?_; rintro e w' ⟨rfl, rfl⟩)
    go_ret
    exact ⟨ret_bool (labOk_base hb').symm, (Below.refl _ _).alloc (Nat.le_refl _) _⟩
end Go.Proofs.Ytonpoakimpoojaa
