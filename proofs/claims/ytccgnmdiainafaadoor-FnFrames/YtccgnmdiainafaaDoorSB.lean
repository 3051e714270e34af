/- The reader's short texts, and what DrawChecksum draws; sums of texts put together, plainly. -/
import Derived.Test.YtccgnmdiainafaaDoorSA
namespace Go.Proofs.YtccgnmdiainafaaDoor
open Go Go.RowKit Go.Deep Go.Maps

set_option maxRecDepth 100000 in
set_option maxHeartbeats 2000000 in
theorem rdText_any (w0 : World) (rb : Nat) (a : Option Addr) (n cap : Nat) (w : World) (h : Rd w0 w rb a n cap) :
    Calls Tryd.prog 14 #[.pointer (some ⟨rb, 0, none⟩)] w fun e w' => ∃ s : ByteArray, e = .returned (.string s) ∧ s.size ≤ 6 ∧ Rd w0 w' rb a n cap ∧ w.grownBy w' (some rb) := by
  have hrb : rb < w.heap.size := h.lt
  have K0 := (Below.refl _ w).alloc (Nat.le_refl _) (.cells #[.string ⟨#[]⟩, .string ⟨#[97]⟩, .string ⟨#[98]⟩, .string ⟨#[97, 98]⟩, .string ⟨#[115, 101, 99, 114, 101, 116]⟩, .string ⟨#[120, 32, 121]⟩] 9)
  have A0 := Blk.new w (.cells #[.string ⟨#[]⟩, .string ⟨#[97]⟩, .string ⟨#[98]⟩, .string ⟨#[97, 98]⟩, .string ⟨#[115, 101, 99, 114, 101, 116]⟩, .string ⟨#[120, 32, 121]⟩] 9)
  have R0 := h.below K0
  have g0 := World.grownBy_alloc w (.cells #[.string ⟨#[]⟩, .string ⟨#[97]⟩, .string ⟨#[98]⟩, .string ⟨#[97, 98]⟩, .string ⟨#[115, 101, 99, 114, 101, 116]⟩, .string ⟨#[120, 32, 121]⟩] 9) (some rb)
  go_enter Tryd.func14, Tryd.ntmps14
  go_wp2_with fail
  refine (below_any w0 rb a n cap 6 _ (by omega) R0).mono ?_
  rintro e w1 ⟨x, rfl, _, hx6, R1, hg1⟩
  have hx : x < 6 := hx6 (by omega)
  have A1 := A0.grown hg1 (by simp; omega)
  have G1 : w.grownBy w1 (some rb) := grown_pair g0 hg1
  unfold Blk at A1
  clear K0 R0 g0 hg1 h A0
  have c0 : w1.cell? ⟨w.heap.size, 0, none⟩ = some (.string ⟨#[]⟩) := by simp [World.cell?, A1]
  have c1 : w1.cell? ⟨w.heap.size, 1, none⟩ = some (.string ⟨#[97]⟩) := by simp [World.cell?, A1]
  have c2 : w1.cell? ⟨w.heap.size, 2, none⟩ = some (.string ⟨#[98]⟩) := by simp [World.cell?, A1]
  have c3 : w1.cell? ⟨w.heap.size, 3, none⟩ = some (.string ⟨#[97, 98]⟩) := by simp [World.cell?, A1]
  have c4 : w1.cell? ⟨w.heap.size, 4, none⟩ = some (.string ⟨#[115, 101, 99, 114, 101, 116]⟩) := by simp [World.cell?, A1]
  have c5 : w1.cell? ⟨w.heap.size, 5, none⟩ = some (.string ⟨#[120, 32, 121]⟩) := by simp [World.cell?, A1]
  clear A1 hx6
  obtain rfl | rfl | rfl | rfl | rfl | rfl : x = 0 ∨ x = 1 ∨ x = 2 ∨ x = 3 ∨ x = 4 ∨ x = 5 := by omega
  all_goals
    go_wp2
    go_ret
    exact ⟨_, rfl, by decide, R1, G1⟩
end Go.Proofs.YtccgnmdiainafaaDoor
