/- Objects by themselves: objectOk of the program answers the plain function objOk. -/
import Derived.Test.YtimacbpfnkephaaZB
import Derived.Test.YtimacbpfnkephaaHA
import Derived.Test.YtimacbpfnkephaaHB
namespace Go.Proofs.Ytimacbpfnkephaa
open Go.RowKit Go.Deep

def itemsB (n : Nat) (f : Nat → ByteArray) : Bool := decide (n ≤ 8) && (List.range n).all (fun i => plainB (f i) 40)
theorem itemsB_len {n : Nat} {f : Nat → ByteArray} (e : 8 < n) : itemsB n f = false := by
  have : decide (n ≤ 8) = false := by simp; omega
  simp [itemsB, this]
theorem itemsB_at {n k : Nat} {f : Nat → ByteArray} (hk : k < n) (e : plainB (f k) 40 = false) : itemsB n f = false := by
  have : (List.range n).all (fun i => plainB (f i) 40) = false := by
    rw [List.all_eq_false]; exact ⟨k, List.mem_range.2 hk, by simp [e]⟩
  simp [itemsB, this]
theorem itemsB_all {n : Nat} {f : Nat → ByteArray} (e : ∀ i, i < n → plainB (f i) 40 = true) : itemsB n f = decide (n ≤ 8) := by
  have : (List.range n).all (fun i => plainB (f i) 40) = true := by
    rw [List.all_eq_true]; intro i hi; exact e i (List.mem_range.1 hi)
  simp [itemsB, this]
theorem itemsB_out {n : Nat} {f : Nat → ByteArray} (e : itemsB n f = true) : n ≤ 8 ∧ ∀ i, i < n → plainB (f i) 40 = true := by
  simp only [itemsB, Bool.and_eq_true, decide_eq_true_eq, List.all_eq_true, List.mem_range] at e
  exact e

set_option maxRecDepth 100000 in
set_option maxHeartbeats 2000000 in
theorem itemsOk_any (a : Option Addr) (n cap : Nat) (f : Nat → ByteArray) (w : World) (hn : n ≤ maxLen) (hc : StrAt w a n f) (hz : ∀ i, i < n → (f i).size ≤ maxLen) :
    Calls Try.prog 45 #[.slice a n cap] w fun e w' => e = .returned (.bool (itemsB n f)) ∧ Below w.heap.size w w' := by
  unfold maxLen at hn
  have HC := hid hc
  have HZ := hid hz
  clear hc hz
  by_cases h8 : 8 < n
  · have h8' : (8 : Int) < (n : Int) := by omega
    go_enter Try.func45, Try.ntmps45
    go_wp2
    go_ret
    exact ⟨ret_bool (itemsB_len h8).symm, Below.refl _ _⟩
  · have h8' : ¬ (8 : Int) < (n : Int) := by omega
    go_enter Try.func45, Try.ntmps45
    go_wp2
    go_loopw [10] (fun i wr => ∃ k : Nat, k ≤ n ∧ i = .int .i64 k ∧ Hid (∀ j, j < k → plainB (f j) 40 = true) ∧ Below w.heap.size w wr) (fun i _ => n - (intOf i).toNat)
    case atStart => exact ⟨0, Nat.zero_le _, rfl, hid (fun j hj => by omega), Below.refl _ _⟩
    case round =>
      obtain ⟨k, hk, rfl, HA, hB⟩ := hrel
      by_cases hlt : k < n
      · obtain ⟨b, off, rfl, hlt0, hcc⟩ := HC.out.below hB (by omega)
        have g1 := hcc k hlt
        have z := HZ.out k hlt
        have i1 : (k : Int) < (n : Int) := by omega
        clear hcc
        go_wp2_with fail
        refine (isData_any _ _ z).mono ?_
        rintro e w1 ⟨rfl, hb1⟩
        have B1 := then_ hB hb1
        clear g1
        by_cases t : plainB (f k) 40 = true
        · have HA2 : Hid (∀ j, j < k + 1 → plainB (f j) 40 = true) := hid (fun j hj => by
            by_cases e : j = k
            · subst e; exact t
            · exact HA.out j (by omega))
          go_wp2
          exact ⟨⟨k + 1, by omega, by go_num, HA2, B1⟩, by simp [intOf]; omega⟩
        · have t' : plainB (f k) 40 = false := by simpa using t
          clear t
          go_wp2
          go_ret
          exact ⟨ret_bool (itemsB_at hlt t').symm, B1⟩
      · go_wp2
        go_ret
        have e : k = n := by omega
        subst e
        exact ⟨ret_bool (by rw [itemsB_all HA.out]; simp; omega), hB⟩

/-- what an object of its kind may not have -/
def kindB (t : ObjV) : Bool :=
  if t.kind = 1 then t.items.n == 0 && (t.own.n == 0 && zeroB t.b2 t.c2.n)
  else if t.kind = 2 then t.data.toList.isEmpty && (t.own.n == 0 && zeroB t.b2 t.c2.n)
  else if t.kind = 3 then t.data.toList.isEmpty && t.items.n == 0 && (t.own.n == 0 && zeroB t.b2 t.c2.n)
  else if t.kind = 4 then t.data.toList.isEmpty && t.items.n == 0
  else false
def objOk (t : ObjV) : Bool := labOk t.b1 t.c1.n t.c1.f t.c1.g && labOk t.b2 t.c2.n t.c2.f t.c2.g && ownOk t.own.n t.own.h && plainB t.data 40 && itemsB t.items.n t.items.f && kindB t
end Go.Proofs.Ytimacbpfnkephaa
