/- FnExactLabelOk: the walk: the law answers true at every label that came in, and writes nothing that was there. -/
import Derived.Test.YtjolkbcnglhebaaE
namespace Go.Proofs.Ytjolkbcnglhebaa
open Go.RowKit Go.Deep

theorem szOf_ok {n : Nat} {left : Int} (h0 : 0 ≤ left) (h1 : left ≤ 1048576) (h : 0 ≤ szOf n left) : n ≤ 1048576 ∧ szOf n left = left - n := by
  unfold szOf at *; split at h <;> rename_i hh
  · omega
  · rw [if_neg hh]; omega

end Go.Proofs.Ytjolkbcnglhebaa
