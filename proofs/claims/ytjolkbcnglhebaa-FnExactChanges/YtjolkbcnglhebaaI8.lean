/- FnExactChanges is proved at every input: the call returns true and each argument reads afterwards as before. No condition. -/
import Derived.Test.YtjolkbcnglhebaaFI
import Derived.Test.YtjolkbcnglhebaaP
import Derived.Test.YtjolkbcnglhebaaH1
import Derived.Test.YtjolkbcnglhebaaH2
import Derived.Test.YtjolkbcnglhebaaH3
namespace Go.Proofs.Ytjolkbcnglhebaa
open Go.ChangeShapes Go.WideShapes Go.ChangeAt Go.RowKit Go.Deep Go.Joins

set_option maxRecDepth 100000 in
theorem fnExactChanges_lifted (os : Os) (started : os.Started) (H : Type) (enc : TypeId × Value → H) :
    ReturnsInHanded {} Try.checked os 8 .any (Rows.fnExactChangesSpec.pre6 enc Try.prog Try.f8 Rows.fnExactChangesRow.domain false) (Rows.fnExactChangesSpec.post enc Try.prog Try.f8 false true false false) := by
  refine returnsInHanded_of_change (C := Try.checked) Try.ownKnob started (by kernel_rfl) Try.func8
    (ChangeSpec.witness6 (enc := enc) (C := Try.checked) false ⟨#[], #[.agg #[.int .i64 0, .int .i64 0, .slice none 0 0, .int .i64 0, .slice none 0 0, .slice none 0 0, .int .i64 0], .agg #[.int .i64 0, .slice none 0 0]], []⟩ 8 (by kernel_rfl) (by kernel_rfl) (by kernel_rfl) (by kernel_rfl)) ?_
  intro W base args ds gs before hval0 hW hcnd _
  have hval : ∀ (j : Nat) t v, Try.f8.params[j]? = some t → args[j]? = some v → Value.okWide Try.prog W .any base t v := hval0
  have hW' := hW
  obtain ⟨p, q, hA0, hV, rfl, hfz, hnd⟩ := hW
  have hA : DataW.TrodAll enc Try.prog W 0 (fun _ => true) true Try.f8.params.toList args.toList ds p := hA0
  rw [Try.params8] at hA hval
  obtain ⟨v0, vs0, d0, ds0, p0, q0, hargs, rfl, rfl, h0, r0⟩ := trodAll_cons hA
  obtain ⟨v1, vs1, d1, ds1, p1, q1, rfl, rfl, rfl, h1, r1⟩ := trodAll_cons r0
  obtain ⟨rfl, rfl, rfl⟩ := trodAll_nil r1
  obtain rfl : args = #[v0, v1] := by cases args; simp_all
  obtain ⟨rfl, rfl⟩ := trodVars_none hV
  have k0 := h0
  have lt0 : ∀ x ∈ p0, x.block < W.heap.size := by obtain ⟨m, hm⟩ := k0; exact DataW.trod_lt m _ _ _ hm
  obtain ⟨id0, made0, bx0, ax0, nx0, kx0, fx0, gx0, bb0, ay0, ny0, ky0, fy0, gy0, az0, nz0, kz0, hz0, rfl, hnx0, hny0, hnz0, hcx0, hcy0, hcz0⟩ := open_thread (hval 0 52 v0 rfl rfl) h0
  have k1 := h1
  have lt1 : ∀ x ∈ p1, x.block < W.heap.size := by obtain ⟨m, hm⟩ := k1; exact DataW.trod_lt m _ _ _ hm
  obtain ⟨b1, a1, n1, c1, f1, g1, rfl, _, hn1, hc1, _⟩ := open_label (hval 1 45 v1 rfl rfl) h1
  clear hA0 hval0
  refine (exactChanges_walk id0 made0 bx0 ax0 nx0 kx0 fx0 gx0 bb0 ay0 ny0 ky0 fy0 gy0 az0 nz0 kz0 hz0 b1 a1 n1 c1 f1 g1 W hnx0 hny0 hnz0 hcx0 hcy0 hcz0 hn1 hc1).mono fun e W' ⟨he, bel⟩ => ?_
  subst he
  exact ⟨_, rfl, _, _, _, [], _, [], hW', trodAll_mk1 (shut_bool Try.underlying4 _), trodAll_cons_mk (Below.trod Try.laidOut (by kernel_rfl) (of_decide_eq_true (by kernel_rfl)) k0 bel lt0) (trodAll_cons_mk (Below.trod Try.laidOut (by kernel_rfl) (of_decide_eq_true (by kernel_rfl)) k1 bel lt1) trodAll_mk0), rfl, bel.frame _, fun h => by cases h⟩

theorem fnExactChanges_facts : joinedFacts Try.prog 8 Try.f8 Rows.fnExactChangesSpec Rows.fnExactChangesRow = true := by
  have e1 : (Rows.fnExactChangesRow.lifted == Try.prog.liftsFinal) = true := by rw [fact_lifts]; kernel_rfl
  have e2 : (Try.prog.make == some Rows.fnExactChangesRow.make) = true := fact_make
  unfold joinedFacts
  rw [fact_mayEnter, e1, e2]
  change _ = true
  kernel_rfl

theorem fnExactChanges_holds : Rows.FnExactChangesSaid :=
  OpenClaim.holds_of_wide 8 Try.f8 rfl rfl rfl rfl rfl rfl rfl ⟨rfl, rfl, rfl, rfl, rfl⟩ rfl rfl rfl rfl rfl (by kernel_rfl) Try.func8 fnExactChanges_facts
    (of_decide_eq_true (by kernel_rfl)) (by unfold Func.isWrapper; first | (rw [if_pos (by decide +kernel)]; kernel_rfl) | (rw [if_neg (by decide +kernel)]; exact ⟨rfl, rfl⟩))
    (fun os started H enc _ => fnExactChanges_lifted os started H enc)
end Go.Proofs.Ytjolkbcnglhebaa
