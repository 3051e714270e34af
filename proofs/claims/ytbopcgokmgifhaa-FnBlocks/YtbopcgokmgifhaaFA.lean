/- The reader's keys; what DrawBlockOf draws. -/
import Derived.Test.YtbopcgokmgifhaaSA
import Derived.Test.YtbopcgokmgifhaaURN
namespace Go.Proofs.Ytbopcgokmgifhaa
open Go Go.RowKit Go.Deep Go.Maps

def keyBlk : Obj := .cells #[.string ⟨#[48, 49, 50, 51, 52, 53, 54, 55, 56, 57, 97, 98, 99, 100, 101, 102]⟩, .string ⟨#[97, 97, 97, 97, 97, 97, 97, 97, 97, 97, 97, 97, 97, 97, 97, 97]⟩, .string ⟨#[27, 26, 25, 24, 19, 18, 17, 16, 11, 10, 9, 8, 3, 2, 1, 0]⟩, .string ⟨#[115, 104, 111, 114, 116]⟩] 9

set_option maxRecDepth 100000 in
set_option maxHeartbeats 2000000 in
theorem rdKey_any (w0 : World) (rb : Nat) (a : Option Addr) (n cap : Nat) (w : World) (h : Rd w0 w rb a n cap) :
    Calls Try.prog 9 #[.pointer (some ⟨rb, 0, none⟩)] w fun e w' => ∃ s : ByteArray, e = .returned (.string s) ∧ s.size ≤ 16 ∧ Rd w0 w' rb a n cap ∧ w.grownBy w' (some rb) := by
  have hrb : rb < w.heap.size := h.lt
  have K0 := (Below.refl _ w).alloc (Nat.le_refl _) keyBlk
  have A0 := Blk.new w keyBlk
  have R0 := h.below K0
  have g0 := World.grownBy_alloc w keyBlk (some rb)
  go_enter Try.func9, Try.ntmps9
  go_wp2_with fail
  refine (below_any w0 rb a n cap 4 _ (by omega) R0).mono ?_
  rintro e w1 ⟨x, rfl, _, hx4, R1, hg1⟩
  have hx : x < 4 := hx4 (by omega)
  have A1 := A0.grown hg1 (by simp; omega)
  have G1 : w.grownBy w1 (some rb) := grown_pair g0 hg1
  unfold Blk keyBlk at A1
  clear K0 R0 g0 hg1 h A0
  have c0 : w1.cell? ⟨w.heap.size, 0, none⟩ = some (.string ⟨#[48, 49, 50, 51, 52, 53, 54, 55, 56, 57, 97, 98, 99, 100, 101, 102]⟩) := by simp [World.cell?, A1]
  have c1 : w1.cell? ⟨w.heap.size, 1, none⟩ = some (.string ⟨#[97, 97, 97, 97, 97, 97, 97, 97, 97, 97, 97, 97, 97, 97, 97, 97]⟩) := by simp [World.cell?, A1]
  have c2 : w1.cell? ⟨w.heap.size, 2, none⟩ = some (.string ⟨#[27, 26, 25, 24, 19, 18, 17, 16, 11, 10, 9, 8, 3, 2, 1, 0]⟩) := by simp [World.cell?, A1]
  have c3 : w1.cell? ⟨w.heap.size, 3, none⟩ = some (.string ⟨#[115, 104, 111, 114, 116]⟩) := by simp [World.cell?, A1]
  clear A1 hx4
  obtain rfl | rfl | rfl | rfl : x = 0 ∨ x = 1 ∨ x = 2 ∨ x = 3 := by omega
  all_goals
    go_wp2
    go_ret
    exact ⟨_, rfl, by decide, R1, G1⟩

set_option maxHeartbeats 1000000 in
theorem drawBlock_any (a : Option Addr) (n cap : Nat) (w : World) (hn : n ≤ 1048576) (hb : BytesAt w a n) :
    Calls Try.prog 5 #[.slice a n cap] w fun e w' => ∃ (s : ByteArray) (b : Int), e = .returned (.tuple #[.string s, .int .i64 b]) ∧ s.size ≤ 16 ∧ InI b ∧ Below w.heap.size w w' := by
  have HB := hid hb
  clear hb
  go_enter Try.func5, Try.ntmps5
  go_wp2_with fail
  refine (l1Open_any a n cap _ hn HB.out).mono ?_
  rintro e w1 ⟨rb, rfl, R1⟩
  go_wp2_with fail
  refine (rdKey_any _ rb a n cap _ R1).mono ?_
  rintro e w2 ⟨s, rfl, h1, R2, _⟩
  clear R1
  go_wp2_with fail
  refine (once_any _ rb a n cap 2 _ (by omega) R2).mono ?_
  rintro e w3 ⟨t, rfl, R3, _⟩
  clear R2
  cases t with
  | true =>
    have E3 := R3.E
    clear R3
    go_wp2
    go_ret2
    exact ⟨_, _, rfl, h1, .of (by omega) (by omega), E3⟩
  | false =>
    go_wp2_with fail
    refine (off_big _ rb a n cap 0 1099511627776 _ (by omega) (by omega) R3).mono ?_
    rintro e w4 ⟨x, rfl, ix, R4, _⟩
    have E4 := R4.E
    clear R3 R4
    have IX := hid ix
    clear ix
    go_wp2
    go_ret2
    exact ⟨_, _, rfl, h1, IX.out, E4⟩
end Go.Proofs.Ytbopcgokmgifhaa
