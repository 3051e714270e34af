/- Names and files that are right: both sides. -/
import Derived.Test.YtcdhhmedcplblaaDP
import Derived.Deep.QuietTactic
import Derived.BigQuiet
namespace Go.Proofs.Ytcdhhmedcplblaa
open Go.RowKit Go.Deep

theorem l11Name_any (s : ByteArray) (w : World) (hs : s.size ≤ maxLen) : Calls Try.prog 63 #[.string s] w fun e w' => e = .returned (.bool (nmOk s)) ∧ w' = w := by
  unfold maxLen at hs
  go_enter Try.func63, Try.ntmps63
  go_wp2
  all_goals
    go_ret
    exact ⟨ret_bool (Bool.eq_iff_iff.2 (by simp [nmOk]; omega)), rfl⟩
theorem nameOk_any (s : ByteArray) (w : World) (hs : s.size ≤ maxLen) : Calls Try.prog 70 #[.string s] w fun e w' => e = .returned (.bool (nmOk s)) ∧ w' = w := by
  unfold maxLen at hs
  go_enter Try.func70, Try.ntmps70
  go_wp2
  all_goals
    go_ret
    exact ⟨ret_bool (Bool.eq_iff_iff.2 (by simp [nmOk]; omega)), rfl⟩

theorem less_yes {x y : ByteArray} (h : key x < key y) : Op.bytesLess x.toList y.toList = true := by rw [key_less]; exact decide_eq_true h
theorem key_inj {x y : ByteArray} (h : key x = key y) : x = y := by
  cases x; cases y
  simpa [key] using h
theorem above_facts {x y : ByteArray} (h : key y < key x) : Op.bytesLess x.toList y.toList = false ∧ (x.toList == y.toList) = false := by
  refine ⟨by rw [key_less]; exact decide_eq_false (List.lt_asymm h), ?_⟩
  rw [Lib.toList_data, Lib.toList_data]
  exact beq_eq_false_iff_ne.2 (fun e => List.lt_irrefl (key x) (by have h2 : key x = key y := e; rw [← h2] at h; exact h))
theorem notAbove_facts {x y : ByteArray} (h : ¬ key y < key x) : Op.bytesLess x.toList y.toList = true ∨ (Op.bytesLess x.toList y.toList = false ∧ (x.toList == y.toList) = true) := by
  by_cases e : key x < key y
  · exact .inl (by rw [key_less]; exact decide_eq_true e)
  · refine .inr ⟨by rw [key_less]; exact decide_eq_false e, ?_⟩
    rw [Lib.toList_data, Lib.toList_data]
    exact beq_iff_eq.2 (List.le_antisymm (List.not_lt.1 h) (List.not_lt.1 e))
theorem less_no {x y : ByteArray} (h : ¬ key x < key y) : Op.bytesLess x.toList y.toList = false := by rw [key_less]; exact decide_eq_false h

set_option maxRecDepth 100000 in
set_option maxHeartbeats 2000000 in
theorem l11Files_any (l : FileL) (w : World) (hl : l.at w) (hz : tot (dsz l.f) l.n ≤ 1000000000) :
    Calls Try.prog 42 #[l.val] w fun e w' => e = .returned (.bool (fsOk l.n l.f)) ∧ Below w.heap.size w w' := by
  obtain ⟨a, n, cap, f⟩ := l
  obtain ⟨hn, hc, hf⟩ := hl
  simp only at hn hc hf hz
  unfold FileL.val
  unfold maxLen at hn
  simp only
  by_cases h60 : n ≤ 60
  · have h60' : ¬ (60 : Int) < (n : Int) := by omega
    have HF := hid hf
    clear hf
    go_enter Try.func42, Try.ntmps42
    go_wp2
    go_loopw [3, 4] (fun s i wr => ∃ k : Nat, k ≤ n ∧ i = .int .i64 k ∧ s = .int .i64 (tot (dsz f) k : Nat) ∧ (List.range k).all (fileOk f) = true ∧ Below w.heap.size w wr) (fun _ i _ => n - (intOf i).toNat)
    case atStart => exact ⟨0, Nat.zero_le _, rfl, rfl, rfl, Below.refl _ _⟩
    case round =>
      obtain ⟨k, hk, rfl, rfl, hall, hB⟩ := hrel
      have HA := hid hall
      clear hall
      by_cases hlt' : k < n
      · obtain ⟨b, off, rfl, hlt, hcc⟩ := hc (by omega)
        obtain ⟨h1, h2⟩ := hcc k hlt'
        have g1 : wr.cell? ⟨b, off + k * 2, none⟩ = some (.string (f k).name) := (hB.cell (p := ⟨b, _, none⟩) hlt).trans h1
        have g2 : wr.cell? ⟨b, off + k * 2 + 1, none⟩ = some (.string (f k).data) := (hB.cell (p := ⟨b, _, none⟩) hlt).trans h2
        have i0 : (0 : Int) ≤ (k : Int) := by omega
        have i1 : (k : Int) < (n : Int) := by omega
        have z1 := (HF.out k hlt').1
        have z2 : (f k).data.size ≤ tot (dsz f) n := Nat.le_trans (by simp only [tot, dsz]; omega) (tot_part (g := dsz f) (k := k + 1) (n := n) (by omega))
        have z3 : tot (dsz f) k ≤ tot (dsz f) n := tot_part hk
        have E5 : Hid ((tot (dsz f) k : Int) + (f k).data.size = (tot (dsz f) (k + 1) : Nat)) := hid (by simp only [tot, dsz]; omega)
        by_cases t1 : nmOk (f k).name = true
        · by_cases k0 : k = 0
          · have d0 : decide ((0 : Int) < (k : Int)) = false := by simp; omega
            have d1 : decide (0 < k) = false := by simp; omega
            have K0 : Hid (k = 0) := k0
            have E6 : Hid (fileOk f k = true) := hid (by rw [fileOk, t1]; simp [k0])
            clear hc k0
            go_wp2_with fail
            go_quiet ((go_at_call 63; exact Calls.quiet_of_same (l11Name_any _ _ z1)))
            go_wp2
            go_roundw
            case rel => exact ⟨k + 1, by omega, by go_num, by rw [E5.out], by rw [all_succ, HA.out, E6.out]; rfl, below_drewN hB _⟩
            case measure => simp [intOf]; omega
          · obtain ⟨m, rfl⟩ : ∃ m, k = m + 1 := ⟨k - 1, by omega⟩
            have d0 : (0 : Int) < ((m + 1 : Nat) : Int) := by omega
            have g3 : wr.cell? ⟨b, off + m * 2, none⟩ = some (.string (f m).name) := (hB.cell (p := ⟨b, _, none⟩) hlt).trans (hcc m (by omega)).1
            have j1 : ((m : Nat) : Int) < (n : Int) := by omega
            clear hc hcc h1 h2 k0
            by_cases t2 : key (f m).name < key (f (m + 1)).name
            · obtain ⟨t3, t4⟩ := above_facts t2
              have E6 : Hid (fileOk f (m + 1) = true) := hid (by simp [fileOk, t1, t2])
              clear t2
              go_wp2_with fail
              go_quiet ((go_at_call 63; exact Calls.quiet_of_same (l11Name_any _ _ z1)))
              go_wp2
              go_roundw
              case rel => exact ⟨m + 1 + 1, by omega, by go_num, by rw [E5.out], by rw [all_succ, HA.out, E6.out]; rfl, below_drewN hB _⟩
              case measure => simp [intOf]; omega
            · have E6 : Hid (fileOk f (m + 1) = false) := hid (by simp [fileOk, t2])
              have t2' := notAbove_facts t2
              clear t2
              rcases t2' with t3 | ⟨t3, t4⟩
              · go_wp2_with fail
                go_quiet ((go_at_call 63; exact Calls.quiet_of_same (l11Name_any _ _ z1)))
                go_wp2
                go_ret
                exact ⟨ret_bool (fsOk_no hlt' E6.out).symm, below_drewN hB _⟩
              · go_wp2_with fail
                go_quiet ((go_at_call 63; exact Calls.quiet_of_same (l11Name_any _ _ z1)))
                go_wp2
                go_ret
                exact ⟨ret_bool (fsOk_no hlt' E6.out).symm, below_drewN hB _⟩
        · have t1' : nmOk (f k).name = false := by simpa using t1
          clear t1 hc
          go_wp2_with fail
          go_quiet ((go_at_call 63; exact Calls.quiet_of_same (l11Name_any _ _ z1)))
          go_wp2
          go_ret
          exact ⟨ret_bool (fsOk_no hlt' (by simp [fileOk, t1'])).symm, below_drewN hB _⟩
      · clear hc
        obtain rfl : k = n := by omega
        go_wp2
        go_ret
        exact ⟨ret_bool (by rw [fsOk_end h60 HA.out]; exact Bool.eq_iff_iff.2 (by simp; omega)), hB⟩
  · have h60' : (60 : Int) < (n : Int) := by omega
    clear hc hf
    go_enter Try.func42, Try.ntmps42
    go_wp2
    go_ret
    exact ⟨ret_bool (fsOk_many h60).symm, Below.refl _ _⟩
end Go.Proofs.Ytcdhhmedcplblaa
