/- Files, plainly: names that rise, sums of sizes. -/
import Derived.Test.YtcchpeebhkiacaaZA
import Derived.Sort.Walk0
import Derived.Deep.QuietTactic
import Derived.BigQuiet
namespace Go.Proofs.Ytcchpeebhkiacaa
open Go.RowKit Go.Deep

/-- a name's bytes -/
def key (s : ByteArray) : List UInt8 := s.data.toList
def nmOk (s : ByteArray) : Bool := decide (1 ≤ s.size) && decide (s.size ≤ 100)
/-- is the i-th file's name one, and above the name ahead of it? -/
def fileOk (f : Nat → FileV) (i : Nat) : Bool := nmOk (f i).name && (decide (i = 0) || decide (key (f (i - 1)).name < key (f i).name))
def dsz (f : Nat → FileV) (i : Nat) : Nat := (f i).data.size
def fsOk (n : Nat) (f : Nat → FileV) : Bool := decide (n ≤ 60) && (List.range n).all (fileOk f) && decide (tot (dsz f) n ≤ 200000)
theorem all_succ {p : Nat → Bool} {n : Nat} : (List.range (n + 1)).all p = ((List.range n).all p && p n) := by simp [List.range_succ, List.all_append]
theorem all_no {p : Nat → Bool} {n i : Nat} (hi : i < n) (h : p i = false) : (List.range n).all p = false := by
  rw [List.all_eq_false]
  exact ⟨i, List.mem_range.2 hi, by simp [h]⟩
theorem fsOk_many {n : Nat} {f : Nat → FileV} (h : ¬ n ≤ 60) : fsOk n f = false := by simp [fsOk, h]
theorem fsOk_no {n i : Nat} {f : Nat → FileV} (hi : i < n) (h : fileOk f i = false) : fsOk n f = false := by simp [fsOk, all_no hi h]
theorem fsOk_end {n : Nat} {f : Nat → FileV} (h : n ≤ 60) (h2 : (List.range n).all (fileOk f) = true) : fsOk n f = decide (tot (dsz f) n ≤ 200000) := by simp [fsOk, h, h2]
theorem tot_le {g h : Nat → Nat} {n : Nat} (e : ∀ i, i < n → g i ≤ h i) : tot g n ≤ tot h n := by
  induction n with
  | zero => exact Nat.le_refl _
  | succ n ih =>
    have := ih (fun i hi => e i (by omega))
    have := e n (by omega)
    simp only [tot]
    omega
theorem tot_part {g : Nat → Nat} {k n : Nat} (h : k ≤ n) : tot g k ≤ tot g n := by
  induction n with
  | zero => rw [Nat.le_zero.1 h]; exact Nat.le_refl _
  | succ n ih =>
    by_cases e : k = n + 1
    · rw [e]; exact Nat.le_refl _
    · have := ih (by omega)
      simp only [tot]
      omega
theorem key_less (x y : ByteArray) : Op.bytesLess x.toList y.toList = decide (key x < key y) := by
  rw [bytesLess_eq, Lib.toList_data, Lib.toList_data]
  rfl
end Go.Proofs.Ytcchpeebhkiacaa
/- Names and files that are right: both sides. -/
namespace Go.Proofs.Ytcchpeebhkiacaa
open Go.RowKit Go.Deep

theorem l11Name_any (s : ByteArray) (w : World) (hs : s.size ≤ maxLen) : Calls Try.prog 53 #[.string s] w fun e w' => e = .returned (.bool (nmOk s)) ∧ w' = w := by
  unfold maxLen at hs
  go_enter Try.func53, Try.ntmps53
  go_wp2
  all_goals
    go_ret
    exact ⟨ret_bool (Bool.eq_iff_iff.2 (by simp [nmOk]; omega)), rfl⟩
theorem nameOk_any (s : ByteArray) (w : World) (hs : s.size ≤ maxLen) : Calls Try.prog 47 #[.string s] w fun e w' => e = .returned (.bool (nmOk s)) ∧ w' = w := by
  unfold maxLen at hs
  go_enter Try.func47, Try.ntmps47
  go_wp2
  all_goals
    go_ret
    exact ⟨ret_bool (Bool.eq_iff_iff.2 (by simp [nmOk]; omega)), rfl⟩

theorem less_yes {x y : ByteArray} (h : key x < key y) : Op.bytesLess x.toList y.toList = true := by rw [key_less]; exact decide_eq_true h
theorem key_inj {x y : ByteArray} (h : key x = key y) : x = y := by
  cases x; cases y
  simpa [key] using h
theorem above_facts {x y : ByteArray} (h : key y < key x) : Op.bytesLess x.toList y.toList = false ∧ (x.toList == y.toList) = false := by
  refine ⟨by rw [key_less]; exact decide_eq_false (List.lt_asymm h), ?_⟩
  rw [Lib.toList_data, Lib.toList_data]
  exact beq_eq_false_iff_ne.2 (fun e => List.lt_irrefl (key x) (by have h2 : key x = key y := e; rw [← h2] at h; exact h))
theorem notAbove_facts {x y : ByteArray} (h : ¬ key y < key x) : Op.bytesLess x.toList y.toList = true ∨ (Op.bytesLess x.toList y.toList = false ∧ (x.toList == y.toList) = true) := by
  by_cases e : key x < key y
  · exact .inl (by rw [key_less]; exact decide_eq_true e)
  · refine .inr ⟨by rw [key_less]; exact decide_eq_false e, ?_⟩
    rw [Lib.toList_data, Lib.toList_data]
    exact beq_iff_eq.2 (List.le_antisymm (List.not_lt.1 h) (List.not_lt.1 e))
theorem less_no {x y : ByteArray} (h : ¬ key x < key y) : Op.bytesLess x.toList y.toList = false := by rw [key_less]; exact decide_eq_false h

set_option maxRecDepth 100000 in
set_option maxHeartbeats 2000000 in
theorem l11Files_any (l : FileL) (w : World) (hl : l.at w) (hz : tot (dsz l.f) l.n ≤ 1000000000) :
    Calls Try.prog 27 #[l.val] w fun e w' => e = .returned (.bool (fsOk l.n l.f)) ∧ Below w.heap.size w w' := by
  obtain ⟨a, n, cap, f⟩ := l
  obtain ⟨hn, hc, hf⟩ := hl
  simp only at hn hc hf hz
  unfold FileL.val
  unfold maxLen at hn
  simp only
  by_cases h60 : n ≤ 60
  · have h60' : ¬ (60 : Int) < (n : Int) := by omega
    have HF := hid hf
    clear hf
    go_enter Try.func27, Try.ntmps27
    go_wp2
    go_loopw [3, 4] (fun s i wr => ∃ k : Nat, k ≤ n ∧ i = .int .i64 k ∧ s = .int .i64 (tot (dsz f) k : Nat) ∧ (List.range k).all (fileOk f) = true ∧ Below w.heap.size w wr) (fun _ i _ => n - (intOf i).toNat)
    case atStart => exact ⟨0, Nat.zero_le _, rfl, rfl, rfl, Below.refl _ _⟩
    case round =>
      obtain ⟨k, hk, rfl, rfl, hall, hB⟩ := hrel
      have HA := hid hall
      clear hall
      by_cases hlt' : k < n
      · obtain ⟨b, off, rfl, hlt, hcc⟩ := hc (by omega)
        obtain ⟨h1, h2⟩ := hcc k hlt'
        have g1 : wr.cell? ⟨b, off + k * 2, none⟩ = some (.string (f k).name) := (hB.cell (p := ⟨b, _, none⟩) hlt).trans h1
        have g2 : wr.cell? ⟨b, off + k * 2 + 1, none⟩ = some (.string (f k).data) := (hB.cell (p := ⟨b, _, none⟩) hlt).trans h2
        have i0 : (0 : Int) ≤ (k : Int) := by omega
        have i1 : (k : Int) < (n : Int) := by omega
        have z1 := (HF.out k hlt').1
        have z2 : (f k).data.size ≤ tot (dsz f) n := Nat.le_trans (by simp only [tot, dsz]; omega) (tot_part (g := dsz f) (k := k + 1) (n := n) (by omega))
        have z3 : tot (dsz f) k ≤ tot (dsz f) n := tot_part hk
        have E5 : Hid ((tot (dsz f) k : Int) + (f k).data.size = (tot (dsz f) (k + 1) : Nat)) := hid (by simp only [tot, dsz]; omega)
        by_cases t1 : nmOk (f k).name = true
        · by_cases k0 : k = 0
          · have d0 : decide ((0 : Int) < (k : Int)) = false := by simp; omega
            have d1 : decide (0 < k) = false := by simp; omega
            have K0 : Hid (k = 0) := k0
            have E6 : Hid (fileOk f k = true) := hid (by rw [fileOk, t1]; simp [k0])
            clear hc k0
            go_wp2_with fail
            go_quiet ((go_at_call 53; exact Calls.quiet_of_same (l11Name_any _ _ z1)))
            go_wp2
            go_roundw
            case rel => exact ⟨k + 1, by omega, by go_num, by rw [E5.out], by rw [all_succ, HA.out, E6.out]; rfl, below_drewN hB _⟩
            case measure => simp [intOf]; omega
          · obtain ⟨m, rfl⟩ : ∃ m, k = m + 1 := ⟨k - 1, by omega⟩
            have d0 : (0 : Int) < ((m + 1 : Nat) : Int) := by omega
            have g3 : wr.cell? ⟨b, off + m * 2, none⟩ = some (.string (f m).name) := (hB.cell (p := ⟨b, _, none⟩) hlt).trans (hcc m (by omega)).1
            have j1 : ((m : Nat) : Int) < (n : Int) := by omega
            clear hc hcc h1 h2 k0
            by_cases t2 : key (f m).name < key (f (m + 1)).name
            · obtain ⟨t3, t4⟩ := above_facts t2
              have E6 : Hid (fileOk f (m + 1) = true) := hid (by simp [fileOk, t1, t2])
              clear t2
              go_wp2_with fail
              go_quiet ((go_at_call 53; exact Calls.quiet_of_same (l11Name_any _ _ z1)))
              go_wp2
              go_roundw
              case rel => exact ⟨m + 1 + 1, by omega, by go_num, by rw [E5.out], by rw [all_succ, HA.out, E6.out]; rfl, below_drewN hB _⟩
              case measure => simp [intOf]; omega
            · have E6 : Hid (fileOk f (m + 1) = false) := hid (by simp [fileOk, t2])
              have t2' := notAbove_facts t2
              clear t2
              rcases t2' with t3 | ⟨t3, t4⟩
              · go_wp2_with fail
                go_quiet ((go_at_call 53; exact Calls.quiet_of_same (l11Name_any _ _ z1)))
                go_wp2
                go_ret
                exact ⟨ret_bool (fsOk_no hlt' E6.out).symm, below_drewN hB _⟩
              · go_wp2_with fail
                go_quiet ((go_at_call 53; exact Calls.quiet_of_same (l11Name_any _ _ z1)))
                go_wp2
                go_ret
                exact ⟨ret_bool (fsOk_no hlt' E6.out).symm, below_drewN hB _⟩
        · have t1' : nmOk (f k).name = false := by simpa using t1
          clear t1 hc
          go_wp2_with fail
          go_quiet ((go_at_call 53; exact Calls.quiet_of_same (l11Name_any _ _ z1)))
          go_wp2
          go_ret
          exact ⟨ret_bool (fsOk_no hlt' (by simp [fileOk, t1'])).symm, below_drewN hB _⟩
      · clear hc
        obtain rfl : k = n := by omega
        go_wp2
        go_ret
        exact ⟨ret_bool (by rw [fsOk_end h60 HA.out]; exact Bool.eq_iff_iff.2 (by simp; omega)), hB⟩
  · have h60' : (60 : Int) < (n : Int) := by omega
    clear hc hf
    go_enter Try.func27, Try.ntmps27
    go_wp2
    go_ret
    exact ⟨ret_bool (fsOk_many h60).symm, Below.refl _ _⟩
end Go.Proofs.Ytcchpeebhkiacaa
/- Files that are right, for the program. -/
namespace Go.Proofs.Ytcchpeebhkiacaa
open Go.RowKit Go.Deep

/-- the name ahead of the k-th file: none is below all others -/
def prev (f : Nat → FileV) (k : Nat) : ByteArray := if k = 0 then ⟨#[]⟩ else (f (k - 1)).name
theorem prev_succ (f : Nat → FileV) (k : Nat) : prev f (k + 1) = (f k).name := by simp [prev]
theorem key_pos {s : ByteArray} (h : nmOk s = true) : key ⟨#[]⟩ < key s := by
  have h1 : 1 ≤ s.size := by simp [nmOk] at h; exact h.1
  obtain ⟨⟨l⟩⟩ := s
  cases l with
  | nil => exact absurd h1 (by decide)
  | cons a r => exact List.nil_lt_cons a r
theorem fileOk_prev {f : Nat → FileV} {k : Nat} (h : nmOk (f k).name = true) : fileOk f k = decide (key (prev f k) < key (f k).name) := by
  unfold fileOk prev
  by_cases e : k = 0
  · subst e
    simp [h, key_pos h]
  · simp [h, e]

set_option maxRecDepth 100000 in
set_option maxHeartbeats 2000000 in
theorem filesOk_any (l : FileL) (w : World) (hl : l.at w) (hz : tot (dsz l.f) l.n ≤ 1000000000) :
    Calls Try.prog 22 #[l.val] w fun e w' => e = .returned (.bool (fsOk l.n l.f)) ∧ Below w.heap.size w w' := by
  obtain ⟨a, n, cap, f⟩ := l
  obtain ⟨hn, hc, hf⟩ := hl
  simp only at hn hc hf hz
  unfold FileL.val
  unfold maxLen at hn
  simp only
  by_cases h60 : n ≤ 60
  · have h60' : ¬ (60 : Int) < (n : Int) := by omega
    have HF := hid hf
    clear hf
    go_enter Try.func22, Try.ntmps22
    go_wp2
    go_loopw [3, 4, 12] (fun ls s i wr => ∃ k : Nat, k ≤ n ∧ i = .int .i64 k ∧ ls = .string (prev f k) ∧ s = .int .i64 (tot (dsz f) k : Nat) ∧ (List.range k).all (fileOk f) = true ∧ Below w.heap.size w wr) (fun _ _ i _ => n - (intOf i).toNat)
    case atStart => exact ⟨0, Nat.zero_le _, rfl, rfl, rfl, rfl, Below.refl _ _⟩
    case round =>
      obtain ⟨k, hk, rfl, rfl, rfl, hall, hB⟩ := hrel
      have HA := hid hall
      clear hall
      by_cases hlt' : k < n
      · obtain ⟨b, off, rfl, hlt, hcc⟩ := hc (by omega)
        obtain ⟨h1, h2⟩ := hcc k hlt'
        have g1 : wr.cell? ⟨b, off + k * 2, none⟩ = some (.string (f k).name) := (hB.cell (p := ⟨b, _, none⟩) hlt).trans h1
        have g2 : wr.cell? ⟨b, off + k * 2 + 1, none⟩ = some (.string (f k).data) := (hB.cell (p := ⟨b, _, none⟩) hlt).trans h2
        have i0 : (0 : Int) ≤ (k : Int) := by omega
        have i1 : (k : Int) < (n : Int) := by omega
        have z1 := (HF.out k hlt').1
        have z2 : (f k).data.size ≤ tot (dsz f) n := Nat.le_trans (by simp only [tot, dsz]; omega) (tot_part (g := dsz f) (k := k + 1) (n := n) (by omega))
        have z3 : tot (dsz f) k ≤ tot (dsz f) n := tot_part hk
        have E5 : Hid ((tot (dsz f) k : Int) + (f k).data.size = (tot (dsz f) (k + 1) : Nat)) := hid (by simp only [tot, dsz]; omega)
        have EP := hid (prev_succ f k)
        have hB1 : Below w.heap.size w (wr.alloc (.cells #[.string (f k).name, .string (f k).data] 56)) := hB.alloc hB.size _
        clear hc hcc h1 h2
        by_cases t1 : nmOk (f k).name = true
        · have EO := hid (fileOk_prev t1)
          generalize prev f k = P at *
          by_cases t2 : key P < key (f k).name
          · obtain ⟨t3, t4⟩ := above_facts t2
            have E6 : Hid (fileOk f k = true) := hid (by rw [EO.out]; exact decide_eq_true t2)
            clear t2
            go_wp2_with (go_at_call 47; refine (nameOk_any _ _ z1).mono ?_; rintro e w' ⟨rfl, rfl⟩)
            go_roundw
            case rel => exact ⟨k + 1, by omega, by go_num, by rw [EP.out], by rw [E5.out], by rw [all_succ, HA.out, E6.out]; rfl, hB1⟩
            case measure => simp [intOf]; omega
          · have E6 : Hid (fileOk f k = false) := hid (by rw [EO.out]; exact decide_eq_false t2)
            have t2' := notAbove_facts t2
            clear t2
            rcases t2' with t3 | ⟨t3, t4⟩
            · go_wp2_with (go_at_call 47; refine (nameOk_any _ _ z1).mono ?_; rintro e w' ⟨rfl, rfl⟩)
              go_ret
              exact ⟨ret_bool (fsOk_no hlt' E6.out).symm, hB1⟩
            · go_wp2_with (go_at_call 47; refine (nameOk_any _ _ z1).mono ?_; rintro e w' ⟨rfl, rfl⟩)
              go_ret
              exact ⟨ret_bool (fsOk_no hlt' E6.out).symm, hB1⟩
        · have t1' : nmOk (f k).name = false := by simpa using t1
          clear t1
          go_wp2_with (go_at_call 47; refine (nameOk_any _ _ z1).mono ?_; rintro e w' ⟨rfl, rfl⟩)
          go_ret
          exact ⟨ret_bool (fsOk_no hlt' (by simp [fileOk, t1'])).symm, hB1⟩
      · clear hc
        obtain rfl : k = n := by omega
        go_wp2
        go_ret
        exact ⟨ret_bool (by rw [fsOk_end h60 HA.out]; exact Bool.eq_iff_iff.2 (by simp; omega)), hB⟩
  · have h60' : (60 : Int) < (n : Int) := by omega
    clear hc hf
    go_enter Try.func22, Try.ntmps22
    go_wp2
    go_ret
    exact ⟨ret_bool (fsOk_many h60).symm, Below.refl _ _⟩
end Go.Proofs.Ytcchpeebhkiacaa
