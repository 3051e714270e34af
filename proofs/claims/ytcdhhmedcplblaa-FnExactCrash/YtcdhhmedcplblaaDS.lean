/- The shelf: what is there, and what is taken away or renamed. -/
import Derived.Test.YtcdhhmedcplblaaDR
namespace Go.Proofs.Ytcdhhmedcplblaa
open Go Go.RowKit Go.Deep Go.Maps

theorem has_any (s : ByteArray) (c n : Nat) (m : List UInt8 → Option Nat) (w : World) (h : MapS w c n m) (hs : s.size ≤ maxLen) :
    Calls Try.prog 124 #[.map (some c), .string s] w fun e w' => e = .returned (.bool (m (key s)).isSome) ∧ w' = w := by
  have hl := h.look hs
  cases t : m (key s) with
  | none =>
    rw [t] at hl
    simp only [Option.map_none] at hl
    go_enter Try.func124, Try.ntmps124
    go_wp2
    go_ret
    exact ⟨rfl, rfl⟩
  | some p =>
    rw [t] at hl
    simp only [Option.map_some] at hl
    go_enter Try.func124, Try.ntmps124
    go_wp2
    go_ret
    exact ⟨rfl, rfl⟩

set_option maxRecDepth 100000 in
set_option maxHeartbeats 1000000 in
theorem remDo_any (o : OpV) (c n : Nat) (m : List UInt8 → Option Nat) (w : World) (h : MapS w c n m) (hs : o.name.size ≤ maxLen) :
    Calls Try.prog 128 #[o.val, .map (some c)] w fun e w' => e = .returned (.tuple #[]) ∧ MapS w' c n (delS m (key o.name)) ∧ ∃ w1, Below w.heap.size w w1 ∧ w1.grownBy w' (some c) := by
  unfold OpV.val
  have b0 : Below w.heap.size w (w.alloc (.cells #[.int .i64 o.kind, .string o.name, .string o.to, .string o.data] 111)) := (Below.refl _ w).alloc (Nat.le_refl _) _
  obtain ⟨w1, hrun, M1, q1⟩ := (h.below b0).drop hs 0
  clear h
  go_enter Try.func128, Try.ntmps128
  go_wp2
  exact bodyPost_end (v := .tuple #[]) (by simp [results, Try.results128, go_sem]) rfl ⟨rfl, M1, _, b0, q1⟩

theorem grown_trans {w a b : World} {c : Nat} (h : w.grownBy a (some c)) (k : a.grownBy b (some c)) : w.grownBy b (some c) :=
  ⟨k.os.trans h.os, k.tape.trans h.tape, k.output.trans h.output, Nat.le_trans h.size k.size, fun i hi hne => (k.block i (Nat.lt_of_lt_of_le hi h.size) hne).trans (h.block i hi hne)⟩
set_option maxRecDepth 100000 in
set_option maxHeartbeats 1000000 in
theorem renDo_any (o : OpV) (c n p : Nat) (m : List UInt8 → Option Nat) (w : World) (h : MapS w c n m) (hp : m (key o.name) = some p) (hs : o.name.size ≤ maxLen) (ht : o.to.size ≤ maxLen) (hn : n < maxLen) :
    Calls Try.prog 125 #[o.val, .map (some c)] w fun e w' => e = .returned (.tuple #[]) ∧ MapS w' c (n + 1) (setS (delS m (key o.name)) (key o.to) p) ∧ ∃ w1, Below w.heap.size w w1 ∧ w1.grownBy w' (some c) := by
  unfold OpV.val
  have b0 : Below w.heap.size w (w.alloc (.cells #[.int .i64 o.kind, .string o.name, .string o.to, .string o.data] 110)) := (Below.refl _ w).alloc (Nat.le_refl _) _
  have A0 := Blk.new w (.cells #[.int .i64 o.kind, .string o.name, .string o.to, .string o.data] 110)
  have hl := (h.below b0).look hs
  rw [hp] at hl
  simp only [Option.map_some] at hl
  obtain ⟨w1, hrun, M1, q1⟩ := (h.below b0).drop hs 0
  obtain ⟨w2, hrun2, M2, q2⟩ := M1.update ht hn p
  have A1 : Blk w1 w.heap.size (.cells #[.int .i64 o.kind, .string o.name, .string o.to, .string o.data] 110) := (q1.block _ A0.lt (fun e => by have e1 : w.heap.size = c := Option.some.inj e; have := h.lt; omega)).trans A0
  obtain ⟨x0, x1, x2, x3⟩ := A1.four
  have Q := hid (grown_trans q1 q2)
  have HM2 := hid M2
  clear h hp M1 M2 q1 q2 A0 A1
  go_enter Try.func125, Try.ntmps125
  go_wp2
  exact bodyPost_end (v := .tuple #[]) (by simp [results, Try.results125, go_sem]) rfl ⟨rfl, HM2.out, _, b0, Q.out⟩
end Go.Proofs.Ytcdhhmedcplblaa
