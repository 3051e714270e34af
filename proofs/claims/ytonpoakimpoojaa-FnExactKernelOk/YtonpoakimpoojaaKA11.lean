/- Kernels as they lie in memory: kernels that are the same compare equal. -/
import Derived.Test.YtonpoakimpoojaaKA10
namespace Go.Proofs.Ytonpoakimpoojaa
open Go.RowKit Go.Deep

set_option maxRecDepth 100000 in
set_option maxHeartbeats 2000000 in
theorem eqKernel_v (k l : KerV) (w : World) (hk : k.at w) (hl : l.at w) (h : k.same l) :
    Calls Try.prog 12 #[k.val, l.val] w fun e w' => e = .returned (.bool true) ∧ Below w.heap.size w w' := by
  obtain ⟨lta, ltn, ltk, lT, loa, lon, lok, lO⟩ := l
  obtain ⟨h1, h2, h3, h4⟩ := h
  simp only at h1 h2 h3 h4
  subst h1 h3
  have P0 := hid ((Blk.new w (.cells #[.slice k.ta k.tn k.tk, .slice k.oa k.on k.ok] 31)).alloc (.cells #[.slice lta k.tn ltk, .slice loa k.on lok] 31))
  have Q0 : Hid (Blk ((w.alloc (.cells #[.slice k.ta k.tn k.tk, .slice k.oa k.on k.ok] 31)).alloc (.cells #[.slice lta k.tn ltk, .slice loa k.on lok] 31)) (w.heap.size + 1) (.cells #[.slice lta k.tn ltk, .slice loa k.on lok] 31)) := by
    have := Blk.new (w.alloc (.cells #[.slice k.ta k.tn k.tk, .slice k.oa k.on k.ok] 31)) (.cells #[.slice lta k.tn ltk, .slice loa k.on lok] 31)
    refine hid ?_
    simpa using this
  have B0 := hid (((Below.refl _ w).alloc (Nat.le_refl _) (.cells #[.slice k.ta k.tn k.tk, .slice k.oa k.on k.ok] 31)).alloc (by simp) (.cells #[.slice lta k.tn ltk, .slice loa k.on lok] 31))
  have E1 : Hid (∀ W, Below w.heap.size w W → Calls Try.prog 44 #[.slice k.ta k.tn k.tk, .slice lta k.tn ltk] W fun e w' => e = .returned (.bool true) ∧ Below W.heap.size W w') := hid (fun W hW => eqThreadS_any _ _ _ _ _ k.T lT W hk.1 (hk.2.2.1.below hW) (hl.2.2.1.below hW) h2)
  have E2 : Hid (∀ W, Below w.heap.size w W → Calls Try.prog 45 #[.slice k.oa k.on k.ok, .slice loa k.on lok] W fun e w' => e = .returned (.bool true) ∧ Below W.heap.size W w') := hid (fun W hW => eqObjectS_any _ _ _ _ _ k.O lO W hk.2.1 (hk.2.2.2.below hW) (hl.2.2.2.below hW) h4)
  unfold KerV.val
  simp only
  clear hk hl h2 h4
  go_enter Try.func12, Try.ntmps12
  go_wp2_with fail
  refine (E1.out _ B0.out).mono ?_
  rintro e w1 ⟨rfl, hb1⟩
  have P1 := hid (P0.out.below hb1)
  have Q1 := hid (Q0.out.below hb1)
  have B1 := hid (then_ B0.out hb1)
  clear P0 Q0 B0 hb1
  obtain ⟨p0, p1⟩ := P1.out.two
  obtain ⟨q0, q1⟩ := Q1.out.two
  go_wp2_with fail
  refine (E2.out _ B1.out).mono ?_
  rintro e w2 ⟨rfl, hb2⟩
  have B2 := then_ B1.out hb2
  clear p0 p1 q0 q1 P1 Q1 B1 hb2
  go_wp2
  go_ret
  exact ⟨rfl, B2⟩
end Go.Proofs.Ytonpoakimpoojaa
