/- FnExactDo: the walk. -/
import Derived.Test.YtcchpeebhkiacaaMJ
import Derived.Test.YtcchpeebhkiacaaMG
namespace Go.Proofs.Ytcchpeebhkiacaa
open Go Go.RowKit Go.Deep Go.Maps

theorem region_cut {P : Program} {c : Code} {Q : Exit → Act → World → Prop} {a : Act} {w : World} (R : Act → World → Prop) (h : c.wp P (fun e a' w' => e = .normal ∧ R a' w') a w) (k : ∀ a' w', R a' w' → Q .normal a' w') : c.wp P Q a w :=
  Code.wp_mono (fun e a w ⟨he, hr⟩ => by subst he; exact k a w hr) h
theorem AnsI.rowD' {w w0 : World} {B : Nat} {vl vs vo : Value} {L S : List FileV} {O : List OpV} (h : AnsI w B vl vs vo L S O) (h0 : AnsI w0 B vl vs vo L S O) : RowD w B w0.heap.size vl vs vo L.length S.length O.length :=
  ⟨h.l.rowF, h.s.rowF, h.o.rowO, h.ap, fun b hb => World.ownsRow.lt h0.l b hb, fun b hb => World.ownsRow.lt h0.s b hb, fun b hb => World.ownsRow.lt h0.o b hb⟩
theorem set3_below {B : Nat} {V W : World} {P : Nat} (h : Below B V W) (hP : B ≤ P) (x y z : Value) : Below B V (((W.setCell ⟨P, 0, none⟩ x).setCell ⟨P, 1, none⟩ y).setCell ⟨P, 2, none⟩ z) := ((h.setCell hP x).setCell hP y).setCell hP z
theorem doLens (d : DiskV) (o : OpV) (hs : d.small) : (doLi d o).length ≤ 4194304 ∧ (doSa d).length ≤ 4194304 ∧ (doOp d o).length ≤ 4194304 := by
  obtain ⟨n0, n1, n2⟩ := hs
  cases t : dkOk d with
  | false =>
    obtain ⟨_, h1, h2, h3⟩ := do_no (o := o) t
    rw [h1, h2, h3]
    exact ⟨Nat.zero_le _, Nat.zero_le _, Nat.zero_le _⟩
  | true =>
    obtain ⟨_, h1, h2, h3⟩ := do_yes (o := o) t
    rw [h1, h2, h3, toL_len]
    have hl : (actL d o).length ≤ 4194304 := by
      unfold actL
      split
      · have := doF_len (n := d.live.toL.length) (f := fileAt d.live.toL) (o := o)
        rw [toL_len] at this
        unfold nextL
        rw [toL_len]
        omega
      · rw [toL_len]; omega
    have ho' : (actO d o).length ≤ 4194304 := by
      unfold actO
      split
      · rw [List.length_append, OpL.toL_len]; simp; omega
      · rw [OpL.toL_len]; omega
    exact ⟨hl, by omega, ho'⟩

end Go.Proofs.Ytcchpeebhkiacaa
