/- dataIn, hasFile. -/
import Derived.Test.YtcchpeebhkiacaaEF
namespace Go.Proofs.Ytcchpeebhkiacaa
open Go Go.RowKit Go.Deep Go.Maps

set_option maxRecDepth 100000 in
set_option maxHeartbeats 2000000 in
theorem dataIn_any (l : FileL) (s : ByteArray) (w : World) (hl : l.at w) :
    Calls Try.prog 38 #[l.val, .string s] w fun e w' => e = .returned (.tuple #[.string ((lookF l.n l.f s).getD ⟨#[]⟩), .bool (lookF l.n l.f s).isSome]) ∧ Below w.heap.size w w' := by
  obtain ⟨a, n, cap, f⟩ := l
  obtain ⟨hn, hc, _⟩ := hl
  simp only at hn hc
  unfold maxLen at hn
  unfold FileL.val
  simp only
  go_enter Try.func38, Try.ntmps38
  go_wp2
  go_loopw [10] (fun i wr => ∃ k : Nat, k ≤ n ∧ i = .int .i64 k ∧ (∀ j, j < k → (f j).name ≠ s) ∧ Below w.heap.size w wr) (fun i _ => n - (intOf i).toNat)
  case atStart => exact ⟨0, Nat.zero_le _, rfl, fun j hj => absurd hj (Nat.not_lt_zero _), Below.refl _ _⟩
  case round =>
    obtain ⟨k, hk, rfl, hall, hB⟩ := hrel
    have HA := hid hall
    clear hall
    by_cases hlt' : k < n
    · obtain ⟨b, off, rfl, hlt, hcc⟩ := hc (by omega)
      have g1 : wr.cell? ⟨b, off + k * 2, none⟩ = some (.string (f k).name) := (hB.cell (p := ⟨b, _, none⟩) hlt).trans (hcc k hlt').1
      have g2 : wr.cell? ⟨b, off + k * 2 + 1, none⟩ = some (.string (f k).data) := (hB.cell (p := ⟨b, _, none⟩) hlt).trans (hcc k hlt').2
      have i0 : (0 : Int) ≤ (k : Int) := by omega
      have i1 : (k : Int) < (n : Int) := by omega
      have B1 : Hid (Below w.heap.size w (wr.alloc (.cells #[.string (f k).name, .string (f k).data] 56))) := hid (hB.alloc hB.size _)
      clear hc hcc
      by_cases en : (f k).name = s
      · have t := eqS_true en
        have E := hid (lookF_some hlt' en HA.out)
        clear en
        go_wp2
        exact bodyPost_ret (v := .tuple #[.string (f k).data, .bool true]) (by simp [results, Try.results38, go_sem]) rfl ⟨by rw [E.out]; rfl, B1.out⟩
      · have t := eqS_false en
        have HE := hid en
        clear en
        go_wp2
        go_roundw
        case rel => exact ⟨k + 1, by omega, by go_num, fun j hj => by
          by_cases e : j = k
          · subst e; exact HE.out
          · exact HA.out j (by omega), B1.out⟩
        case measure => simp [intOf]; omega
    · obtain rfl : k = n := by omega
      have E := hid (lookF_none HA.out)
      clear hc
      go_wp2
      exact bodyPost_ret (v := .tuple #[.string ⟨#[]⟩, .bool false]) (by simp [results, Try.results38, go_sem]) rfl ⟨by rw [E.out]; rfl, hB⟩

set_option maxRecDepth 100000 in
theorem hasFile_any (l : FileL) (s : ByteArray) (w : World) (hl : l.at w) :
    Calls Try.prog 41 #[l.val, .string s] w fun e w' => e = .returned (.bool (lookF l.n l.f s).isSome) ∧ Below w.heap.size w w' := by
  have C := hid (dataIn_any l s w hl)
  unfold FileL.val at C ⊢
  generalize (lookF l.n l.f s).getD ⟨#[]⟩ = R1 at *
  generalize (lookF l.n l.f s).isSome = R2 at *
  clear hl
  go_enter Try.func41, Try.ntmps41
  go_wp2_with fail
  refine C.out.mono ?_
  rintro e w1 ⟨rfl, hb⟩
  go_wp2
  go_ret
  exact ⟨rfl, hb⟩
end Go.Proofs.Ytcchpeebhkiacaa
