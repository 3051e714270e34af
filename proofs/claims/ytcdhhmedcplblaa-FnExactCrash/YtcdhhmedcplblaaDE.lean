/- Files that are right, for the program. -/
import Derived.Test.YtcdhhmedcplblaaDD
namespace Go.Proofs.Ytcdhhmedcplblaa
open Go.RowKit Go.Deep

/-- the name ahead of the k-th file: none is below all others -/
def prev (f : Nat → FileV) (k : Nat) : ByteArray := if k = 0 then ⟨#[]⟩ else (f (k - 1)).name
theorem prev_succ (f : Nat → FileV) (k : Nat) : prev f (k + 1) = (f k).name := by simp [prev]
theorem key_pos {s : ByteArray} (h : nmOk s = true) : key ⟨#[]⟩ < key s := by
  have h1 : 1 ≤ s.size := by simp [nmOk] at h; exact h.1
  obtain ⟨⟨l⟩⟩ := s
  cases l with
  | nil => exact absurd h1 (by decide)
  | cons a r => exact List.nil_lt_cons a r
theorem fileOk_prev {f : Nat → FileV} {k : Nat} (h : nmOk (f k).name = true) : fileOk f k = decide (key (prev f k) < key (f k).name) := by
  unfold fileOk prev
  by_cases e : k = 0
  · subst e
    simp [h, key_pos h]
  · simp [h, e]

set_option maxRecDepth 100000 in
set_option maxHeartbeats 2000000 in
theorem filesOk_any (l : FileL) (w : World) (hl : l.at w) (hz : tot (dsz l.f) l.n ≤ 1000000000) :
    Calls Try.prog 52 #[l.val] w fun e w' => e = .returned (.bool (fsOk l.n l.f)) ∧ Below w.heap.size w w' := by
  obtain ⟨a, n, cap, f⟩ := l
  obtain ⟨hn, hc, hf⟩ := hl
  simp only at hn hc hf hz
  unfold FileL.val
  unfold maxLen at hn
  simp only
  by_cases h60 : n ≤ 60
  · have h60' : ¬ (60 : Int) < (n : Int) := by omega
    have HF := hid hf
    clear hf
    go_enter Try.func52, Try.ntmps52
    go_wp2
    go_loopw [3, 4, 12] (fun ls s i wr => ∃ k : Nat, k ≤ n ∧ i = .int .i64 k ∧ ls = .string (prev f k) ∧ s = .int .i64 (tot (dsz f) k : Nat) ∧ (List.range k).all (fileOk f) = true ∧ Below w.heap.size w wr) (fun _ _ i _ => n - (intOf i).toNat)
    case atStart => exact ⟨0, Nat.zero_le _, rfl, rfl, rfl, rfl, Below.refl _ _⟩
    case round =>
      obtain ⟨k, hk, rfl, rfl, rfl, hall, hB⟩ := hrel
      have HA := hid hall
      clear hall
      by_cases hlt' : k < n
      · obtain ⟨b, off, rfl, hlt, hcc⟩ := hc (by omega)
        obtain ⟨h1, h2⟩ := hcc k hlt'
        have g1 : wr.cell? ⟨b, off + k * 2, none⟩ = some (.string (f k).name) := (hB.cell (p := ⟨b, _, none⟩) hlt).trans h1
        have g2 : wr.cell? ⟨b, off + k * 2 + 1, none⟩ = some (.string (f k).data) := (hB.cell (p := ⟨b, _, none⟩) hlt).trans h2
        have i0 : (0 : Int) ≤ (k : Int) := by omega
        have i1 : (k : Int) < (n : Int) := by omega
        have z1 := (HF.out k hlt').1
        have z2 : (f k).data.size ≤ tot (dsz f) n := Nat.le_trans (by simp only [tot, dsz]; omega) (tot_part (g := dsz f) (k := k + 1) (n := n) (by omega))
        have z3 : tot (dsz f) k ≤ tot (dsz f) n := tot_part hk
        have E5 : Hid ((tot (dsz f) k : Int) + (f k).data.size = (tot (dsz f) (k + 1) : Nat)) := hid (by simp only [tot, dsz]; omega)
        have EP := hid (prev_succ f k)
        have hB1 : Below w.heap.size w (wr.alloc (.cells #[.string (f k).name, .string (f k).data] 72)) := hB.alloc hB.size _
        clear hc hcc h1 h2
        by_cases t1 : nmOk (f k).name = true
        · have EO := hid (fileOk_prev t1)
          generalize prev f k = P at *
          by_cases t2 : key P < key (f k).name
          · obtain ⟨t3, t4⟩ := above_facts t2
            have E6 : Hid (fileOk f k = true) := hid (by rw [EO.out]; exact decide_eq_true t2)
            clear t2
            go_wp2_with (go_at_call 70; refine (nameOk_any _ _ z1).mono ?_; rintro e w' ⟨rfl, rfl⟩)
            go_roundw
            case rel => exact ⟨k + 1, by omega, by go_num, by rw [EP.out], by rw [E5.out], by rw [all_succ, HA.out, E6.out]; rfl, hB1⟩
            case measure => simp [intOf]; omega
          · have E6 : Hid (fileOk f k = false) := hid (by rw [EO.out]; exact decide_eq_false t2)
            have t2' := notAbove_facts t2
            clear t2
            rcases t2' with t3 | ⟨t3, t4⟩
            · go_wp2_with (go_at_call 70; refine (nameOk_any _ _ z1).mono ?_; rintro e w' ⟨rfl, rfl⟩)
              go_ret
              exact ⟨ret_bool (fsOk_no hlt' E6.out).symm, hB1⟩
            · go_wp2_with (go_at_call 70; refine (nameOk_any _ _ z1).mono ?_; rintro e w' ⟨rfl, rfl⟩)
              go_ret
              exact ⟨ret_bool (fsOk_no hlt' E6.out).symm, hB1⟩
        · have t1' : nmOk (f k).name = false := by simpa using t1
          clear t1
          go_wp2_with (go_at_call 70; refine (nameOk_any _ _ z1).mono ?_; rintro e w' ⟨rfl, rfl⟩)
          go_ret
          exact ⟨ret_bool (fsOk_no hlt' (by simp [fileOk, t1'])).symm, hB1⟩
      · clear hc
        obtain rfl : k = n := by omega
        go_wp2
        go_ret
        exact ⟨ret_bool (by rw [fsOk_end h60 HA.out]; exact Bool.eq_iff_iff.2 (by simp; omega)), hB⟩
  · have h60' : (60 : Int) < (n : Int) := by omega
    clear hc hf
    go_enter Try.func52, Try.ntmps52
    go_wp2
    go_ret
    exact ⟨ret_bool (fsOk_many h60).symm, Below.refl _ _⟩
end Go.Proofs.Ytcdhhmedcplblaa
