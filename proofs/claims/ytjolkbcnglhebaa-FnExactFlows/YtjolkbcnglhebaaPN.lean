/- How a slice of whole numbers that came in is opened. -/
import Derived.Test.YtjolkbcnglhebaaP
namespace Go.Proofs.Ytjolkbcnglhebaa
open Go.ChangeShapes Go.WideShapes Go.ChangeAt Go.RowKit Go.Deep Go.Joins

set_option maxRecDepth 100000 in
theorem open_numsArg {H : Type} {enc : TypeId × Value → H} {W : World} {base : Nat} {v1 : Value} {d1 : DataW H} {p1 : List MemPlace} (hval : Value.okWide Try.prog W .any base 32 v1) (h1 : DataW.Trod enc Try.prog W 0 (fun _ => true) true 32 v1 d1 p1) :
    ∃ (a : Option Addr) (n cap : Nat) (f : Nat → Int), v1 = .slice a n cap ∧ n ≤ maxLen ∧ IntsAt W a n f := by
  obtain ⟨a1, len, cap, rfl⟩ := okWide_slice Try.underlying32 hval
  obtain ⟨fuel, hf⟩ := h1
  simp only [Value.cells] at hf
  obtain ⟨a, n, c, f, e, hn, hc, _⟩ := open_nums hf
  exact ⟨a, n, c, f, e, hn, hc⟩
end Go.Proofs.Ytjolkbcnglhebaa
