/- Files, plainly: names that rise, sums of sizes. -/
import Derived.Test.YtcdhhmedcplblaaDC
import Derived.Sort.Walk0
namespace Go.Proofs.Ytcdhhmedcplblaa
open Go.RowKit Go.Deep

/-- a name's bytes -/
def key (s : ByteArray) : List UInt8 := s.data.toList
def nmOk (s : ByteArray) : Bool := decide (1 ≤ s.size) && decide (s.size ≤ 100)
/-- is the i-th file's name one, and above the name ahead of it? -/
def fileOk (f : Nat → FileV) (i : Nat) : Bool := nmOk (f i).name && (decide (i = 0) || decide (key (f (i - 1)).name < key (f i).name))
def dsz (f : Nat → FileV) (i : Nat) : Nat := (f i).data.size
def fsOk (n : Nat) (f : Nat → FileV) : Bool := decide (n ≤ 60) && (List.range n).all (fileOk f) && decide (tot (dsz f) n ≤ 200000)
theorem all_succ {p : Nat → Bool} {n : Nat} : (List.range (n + 1)).all p = ((List.range n).all p && p n) := by simp [List.range_succ, List.all_append]
theorem all_no {p : Nat → Bool} {n i : Nat} (hi : i < n) (h : p i = false) : (List.range n).all p = false := by
  rw [List.all_eq_false]
  exact ⟨i, List.mem_range.2 hi, by simp [h]⟩
theorem fsOk_many {n : Nat} {f : Nat → FileV} (h : ¬ n ≤ 60) : fsOk n f = false := by simp [fsOk, h]
theorem fsOk_no {n i : Nat} {f : Nat → FileV} (hi : i < n) (h : fileOk f i = false) : fsOk n f = false := by simp [fsOk, all_no hi h]
theorem fsOk_end {n : Nat} {f : Nat → FileV} (h : n ≤ 60) (h2 : (List.range n).all (fileOk f) = true) : fsOk n f = decide (tot (dsz f) n ≤ 200000) := by simp [fsOk, h, h2]
theorem tot_le {g h : Nat → Nat} {n : Nat} (e : ∀ i, i < n → g i ≤ h i) : tot g n ≤ tot h n := by
  induction n with
  | zero => exact Nat.le_refl _
  | succ n ih =>
    have := ih (fun i hi => e i (by omega))
    have := e n (by omega)
    simp only [tot]
    omega
theorem tot_part {g : Nat → Nat} {k n : Nat} (h : k ≤ n) : tot g k ≤ tot g n := by
  induction n with
  | zero => rw [Nat.le_zero.1 h]; exact Nat.le_refl _
  | succ n ih =>
    by_cases e : k = n + 1
    · rw [e]; exact Nat.le_refl _
    · have := ih (by omega)
      simp only [tot]
      omega
theorem key_less (x y : ByteArray) : Op.bytesLess x.toList y.toList = decide (key x < key y) := by
  rw [bytesLess_eq, Lib.toList_data, Lib.toList_data]
  rfl
end Go.Proofs.Ytcdhhmedcplblaa
