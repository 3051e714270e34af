/- slices.Equal of files. -/
import Derived.Test.YtcchpeebhkiacaaED
namespace Go.Proofs.Ytcchpeebhkiacaa
open Go Go.RowKit Go.Deep Go.Maps

set_option maxRecDepth 100000 in
set_option maxHeartbeats 4000000 in
theorem equal_any (l m : FileL) (w : World) (hl : l.at w) (hm : m.at w) :
    Calls Try.prog 25 #[l.val, m.val] w fun e w' => e = .returned (.bool (decide (l.n = m.n) && sameF l.n l.f m.f)) ∧ Below w.heap.size w w' := by
  obtain ⟨a, n, cap, f⟩ := l
  obtain ⟨a', n', cap', g⟩ := m
  obtain ⟨hn, hc, _⟩ := hl
  obtain ⟨hn', hc', _⟩ := hm
  simp only at hn hc hn' hc'
  unfold FileL.val
  unfold maxLen at hn hn'
  simp only
  by_cases e : n = n'
  · subst e
    have E0 : (decide (n = n) && sameF n f g) = sameF n f g := by simp
    rw [E0]
    clear E0
    go_enter Try.func25, Try.ntmps25
    go_wp2
    go_loopw [13] (fun i wr => ∃ k : Nat, k ≤ n ∧ i = .int .i64 k ∧ (List.range k).all (fun i => sameV (f i) (g i)) = true ∧ Below w.heap.size w wr) (fun i _ => n - (intOf i).toNat)
    case atStart => exact ⟨0, Nat.zero_le _, rfl, rfl, Below.refl _ _⟩
    case round =>
      obtain ⟨k, hk, rfl, hall, hB⟩ := hrel
      have HA := hid hall
      clear hall
      by_cases hlt' : k < n
      · obtain ⟨b, off, rfl, hlt, hcc⟩ := hc (by omega)
        obtain ⟨b', off', rfl, hlt2, hcc'⟩ := hc' (by omega)
        have g1 : wr.cell? ⟨b, off + k * 2, none⟩ = some (.string (f k).name) := (hB.cell (p := ⟨b, _, none⟩) hlt).trans (hcc k hlt').1
        have g2 : wr.cell? ⟨b, off + k * 2 + 1, none⟩ = some (.string (f k).data) := (hB.cell (p := ⟨b, _, none⟩) hlt).trans (hcc k hlt').2
        have p1 : wr.cell? ⟨b', off' + k * 2, none⟩ = some (.string (g k).name) := (hB.cell (p := ⟨b', _, none⟩) hlt2).trans (hcc' k hlt').1
        have p2 : wr.cell? ⟨b', off' + k * 2 + 1, none⟩ = some (.string (g k).data) := (hB.cell (p := ⟨b', _, none⟩) hlt2).trans (hcc' k hlt').2
        have i0 : (0 : Int) ≤ (k : Int) := by omega
        have i1 : (k : Int) < (n : Int) := by omega
        have HQ := run_neq_file (f k).name (f k).data (g k).name (g k).data
        have hg := eqg
        clear hc hc' hcc hcc'
        cases t : ((f k).name.toList == (g k).name.toList && (f k).data.toList == (g k).data.toList) with
        | true =>
          have E6 : Hid (sameV (f k) (g k) = true) := hid t
          simp only [t] at HQ
          clear t
          go_wp2_with fail
          go_quiet (fail)
          go_wp2
          go_roundw
          case rel => exact ⟨k + 1, by omega, by go_num, by rw [all_succ, HA.out, E6.out]; rfl, by first | exact hB | exact hB.drew | exact below_drewN hB _⟩
          case measure => simp [intOf]; omega
        | false =>
          have E6 : Hid (sameV (f k) (g k) = false) := hid t
          simp only [t] at HQ
          clear t
          go_wp2_with fail
          go_quiet (fail)
          go_wp2
          go_ret
          exact ⟨ret_bool (by unfold sameF; rw [all_no hlt' E6.out]), by first | exact hB | exact hB.drew | exact below_drewN hB _⟩
      · clear hc hc'
        obtain rfl : k = n := by omega
        go_wp2
        go_ret
        exact ⟨ret_bool HA.out.symm, hB⟩
  · have e' : ¬ (n : Int) = (n' : Int) := by omega
    have E : Hid ((decide (n = n') && sameF n f g) = false) := hid (by simp [e])
    clear hc hc' e
    go_enter Try.func25, Try.ntmps25
    go_wp2
    go_ret
    exact ⟨ret_bool E.out.symm, Below.refl _ _⟩
end Go.Proofs.Ytcchpeebhkiacaa
